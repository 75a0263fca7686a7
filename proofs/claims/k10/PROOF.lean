import PyProof.Rows.All
import Wide.All
import OpenK.AllK
import PySem.Challenge.RW_sheetask_k10_whole_turnings_keep
set_option Elab.async false
set_option linter.all false
set_option maxRecDepth 100000
set_option maxHeartbeats 0
set_option tactic.hygienic false
set_option compiler.extract_closed false
set_option hygiene false
set_option bootstrap.genMatcherCode false
set_option genSizeOf false
section
local macro_rules|`(($a,$b,*))=>`(⟨$a,$b,*⟩)
local macro_rules|`(tactic|decide)=>`(tactic|decide +kernel)
theorem z_a(h:True:=by first|exact .inl rfl|exact .inr rfl|assumption):True:=h
theorem z_b(h:True:=by intro _;rfl):True:=h
theorem z_c(h:True:=by first|exact w0g rfl|exact QV (w0g rfl)|exact QV (QV rfl)):True:=h
theorem zz(h:True:=by rfl):True:=h
theorem z_(g:True:=by decide):True:=g
local macro_rules|`($x⁻¹)=>`(autoParam $x zz._auto_1)|`(~~~$x)=>`(autoParam $x z_._auto_1)
open List renaming length_map->w9,getElem?_eq_getElem->we,getElem?_eq_some_iff->wg,length_append->wm,getD_eq_getElem?_getD->wn,mem_singleton->ww,getElem_mem->wz,size_toArray->wB,mem_append_right->wC,mem_append->wE,map_append->wF,length_singleton->wJ,mem_cons->wL,getElem?_map->wM,length_cons->wP,take_add_one->wR,length_take->wV,mem_cons_of_mem->wZ,mem_append_left->q5,take_length->qf,mem_map->qx,mem_cons_self->qy,length_filter_le->qz,not_mem_nil->qA,idxOf_lt_length_iff->qC,map_cons->qF,lookup_cons->qK,mem_of_getElem?->qN,all_eq_true->qS,getElem?_append_right->qW,getElem?_append_left->qY,take_of_length_le->Q0,append_nil->Q3,filter_cons_of_pos->Q5,sum_cons->Qj,mem_range->Qm,map_map->Qp,mem_filter->Qr,pairwise_iff_getElem->Qu,map_congr_left->Qy,append_assoc->QE,mem_of_mem_take->QG,dropLast_concat->QI,forall_mem_cons->QK,length_nil->QN,any_eq_true->QP,flatMap_cons->QU,map_take->QZ,filter_map->w00,length_eq_zero_iff->w01,nodup_append->w04,reverse_cons->w05,length_pos_iff->w06,nodup_cons->w0a,sum_nil->w0c,getElem_toArray->w0k,getElem?_of_mem->w0l,filter_congr->w0w,length_reverse->w0A,length_replicate->w0H,filter_append->w0J,take_zero->w0N,find?_cons->w0T,length_range->w0W,foldl_append->w0X,sum_append->w0Z,flatMap_append->w13,filter_cons_of_neg->w14,length_drop->w15,getElem?_set_self->w17,filter_eq_nil_iff->w19,filter_filter->w1e,getElem?_eq_none->w1i,drop_zero->w1r,filter_cons->w1v,map_nil->w1F,any_cons->w1I
open PySem.Heap renaming get?_push_of_some->wu,lt_size->wQ,get?_push_size->qh,get?_update_other->Qi,size_push->Qo,get?_update_self->w1h,get?_update_ne->w1y
open Nat renaming le_refl->wA,lt_of_lt_of_le->wT,le_trans->wY,ne_of_lt->qc,zero_le->qU,lt_succ_of_lt->Qc,mul_add->QH,mul_le_mul_right->QJ,ne_of_gt->QL,mul_le_mul_left->QR,lt_irrefl->QX,add_mul->w07,lt_succ_self->w0E,mul_le_mul->w0L,add_sub_cancel->w1c,one_mul->w1l,le_of_lt->w1D,sub_self->w1V,zero_add->w1W,mul_one->w26
open PyProof.Rows renaming boot_isinstance->wI,boot_list->qE,boot_str->qP,boot_tuple->qZ,callWith_type1->Qk,slot_tuple_getitem->Ql,boot_sum->w0I,boot_int->w1k
open PySem.F renaming plainAttrs_list->wO,slot_list_index->qG,type_list_index->qI,slot_list_pop->Qz,type_list_pop->QA
open Bool renaming false_ne_true->wU,and_eq_true->Qb,eq_false_iff->QD,eq_iff_iff->w09,false_eq_true->w0h,false_and->w1p,true_and->w1J
open PySem.W renaming mg_none_of->qO,kia_one->QM,callWith_K->w1b
open Or renaming inr->QV,inl->w0g
open True renaming intro->w0e
open Int renaming zero_add->w0q,natCast_nonneg->w1d
open Array renaming length_toList->w10
open PySem.Str renaming length_append->w1n
open Ne renaming symm->w1G
section
open PySem PySem.Spec PyProof.Rows
def wD:type_of% @wpAny_bind:=@wpAny_bind
theorem wK:type_of% @decide_eq_false:=@decide_eq_false
theorem wN:type_of% @decide_eq_true:=@decide_eq_true
theorem wW:type_of% @if_neg:=@if_neg
def q9:type_of% @wpAny_pure:=@wpAny_pure
theorem qd:type_of% @if_pos:=@if_pos
def qD:type_of% @of_decide_eq_true:=@of_decide_eq_true
def Q2:type_of% @PySem.mem_of_lookup:=@PySem.mem_of_lookup
def Qa:type_of% @wpAny_mono:=@wpAny_mono
def Qd:type_of% @congrArg:=@congrArg
def Qe:type_of% @ne_of_beq_false:=@ne_of_beq_false
theorem Qq:type_of% @sizeLine_eq:=@sizeLine_eq
def Qv:type_of% @Calls.spliced_cons:=@Calls.spliced_cons
def Qw:type_of% @wpAny_Call_Name_kw:=@wpAny_Call_Name_kw
theorem QC:type_of% @beq_iff_eq:=@beq_iff_eq
def QO:type_of% @wpAny_holding:=@wpAny_holding
theorem QQ:type_of% @or_false:=@or_false
def w0i:type_of% @of_decide_eq_false:=@of_decide_eq_false
theorem w0j:type_of% @beq_self_eq_true:=@beq_self_eq_true
def w0n:type_of% @codeAny_mono:=@codeAny_mono
theorem w0s:type_of% @PyProof.Rows.F.plain_set_update_loop:=@PyProof.Rows.F.plain_set_update_loop
def w0t:type_of% @wpAny_truthy_bool:=@wpAny_truthy_bool
def w0v:type_of% @Calls.spliced_nil:=@Calls.spliced_nil
def w0x:type_of% @beq_eq_false_iff_ne:=@beq_eq_false_iff_ne
theorem w0B:type_of% @if_false:=@if_false
def w0Q:type_of% @wpAny_passesOwn:=@wpAny_passesOwn
def w0S:type_of% @wpAny_newObj_type:=@wpAny_newObj_type
def w0U:type_of% @pushCells_keeps:=@pushCells_keeps
theorem w0V:type_of% @decide_eq_true_eq:=@decide_eq_true_eq
def w18:type_of% @Calls.callWith_builtin:=@Calls.callWith_builtin
theorem w1f:type_of% @if_true:=@if_true
def w1j:type_of% @F.called_set:=@F.called_set
def w1m:type_of% @listUpdate_at:=@listUpdate_at
def w1s:type_of% @decide_eq_decide:=@decide_eq_decide
def w1L:type_of% @wpAny_ite_split:=@wpAny_ite_split
def w1Q:type_of% @wpAny_call:=@wpAny_call
def w20:type_of% @call_meets:=@call_meets
end
namespace L2
open PySem PySem.Spec PyProof.Rows
abbrev Key:=Sum Int Str
noncomputable def z47:Key->Value->Bool
 | .inl k,v=>Value.isInt k v
 | .inr x,v=>Value.isStrOf x v
noncomputable def zh7(w:World):Key->Int
 | .inl k=>hashInt k
 | .inr x=>hashStr w x
theorem jx:∀{k:Key} {v:Value},z47 k v=true->(∃i t,k=Sum.inl i/\v=Value.int i t)\/(∃x t,k=Sum.inr x/\v=Value.str x t)
 | .inl i,v,h=>by
  obtain⟨t,e⟩:=Value.isInt_shape (k:=i) (v:=v) h;exact .inl (i,t,rfl,e)
 | .inr x,v,h=>by
  obtain⟨t,e⟩:=Value.isStrOf_shape (x:=x) (v:=v) h;exact .inr (x,t,rfl,e)
theorem zaY(i:Int)(t:Tok):z47 (.inl i) (.int i t)=true:=by simp[z47,Value.isInt]
theorem zbd(x:Str)(t:Tok):z47 (.inr x) (.str x t)=true:=by simp[z47,Value.isStrOf]
theorem zfa(a b:Int):decide ((Sum.inl a:Key)=Sum.inl b)=(a == b):=by
 by_cases e:a=b
 .subst e;simp
 .have h:¬(Sum.inl a:Key)=Sum.inl b:=λq=>e (Sum.inl.inj q)
  rw[wK h];exact(w0x.mpr e).symm
theorem zeP(a b:Str):decide ((Sum.inr a:Key)=Sum.inr b)=decide (a=b):=by
 by_cases e:a=b
 .subst e;simp
 .have h:¬(Sum.inr a:Key)=Sum.inr b:=λq=>e (Sum.inr.inj q)
  rw[wK h,wK e]
theorem zf6(a:Int)(b:Str):decide ((Sum.inl a:Key)=Sum.inr b)=false:=wK (λq=>nomatch q)
theorem zfx(a:Str)(b:Int):decide ((Sum.inr a:Key)=Sum.inl b)=false:=wK (λq=>nomatch q)
noncomputable def jw(prog:Program)(w:World):PySem.KeyKind prog w Key where
 is:=z47
 hash:=zh7 w
 inj:=λv a b ha d=>by
  rcases jx ha with⟨i,t,rfl,rfl⟩|⟨x,t,rfl,rfl⟩
  .rcases jx d with⟨j,u,rfl,e⟩|⟨y,u,rfl,e⟩
   .injection e with e1 _;rw[e1]
   .exact nomatch e
  .rcases jx d with⟨j,u,rfl,e⟩|⟨y,u,rfl,e⟩
   .exact nomatch e
   .injection e with e1 _;rw[e1]
 byValue:=λk v h=>by
  rcases jx h with⟨i,t,rfl,rfl⟩|⟨x,t,rfl,rfl⟩<;>rfl
 pyHash:=λc h=>by
  rcases jx c with⟨i,t,rfl,rfl⟩|⟨x,t,rfl,rfl⟩
  .exact wpAny_pyHash_int h
  .exact wpAny_pyHash_str h
 eqBool:=λf c h=>by
  rcases jx f with⟨i,t,rfl,rfl⟩|⟨x,t,rfl,rfl⟩
  .rcases jx c with⟨j,u,rfl,rfl⟩|⟨y,u,rfl,rfl⟩
   .rw [zfa]at h;exact wpAny_eqBool_int h
   .rw [zf6]at h;exact SeqAt.EqAt.int_str i t y u _ _ _ _ h
  .rcases jx c with⟨j,u,rfl,rfl⟩|⟨y,u,rfl,rfl⟩
   .rw [zfx]at h;exact SeqAt.EqAt.str_int x t j u _ _ _ _ h
   .rw [zeP]at h;exact wpAny_eqBool_str h
 «strs»:=λk x t v h=>by
  rcases jx h with⟨i,u,rfl,e⟩|⟨y,u,rfl,e⟩
  .exact nomatch e
  .injection e with e1 _
   subst e1;cases v<;>rfl
def z7w(prog:Program)(w:World)(i:Int)(t:Tok):(jw prog w).is (.inl i) (.int i t)=true:=zaY i t
def z7J(prog:Program)(w:World)(x:Str)(t:Tok):(jw prog w).is (.inr x) (.str x t)=true:=zbd x t
inductive V where
 | non|bl (b:Bool)|int (i:Int)|str (x:Str)|byt (b:Array UInt8)|flt (b:UInt64)|ref (a:Addr)|ty (n:String)
 deriving DecidableEq
def RelV:V->Value->Prop
 | .non,u=>u=Value.none
 | .bl b,u=>u=Value.bool b
 | .int i,u=>∃t,u=Value.int i t
 | .str x,u=>∃t,u=Value.str x t
 | .byt b,u=>∃t,u=Value.bytes b t
 | .flt b,u=>∃t,u=Value.float b t
 | .ref a,u=>u=Value.ref a
 | .ty n,u=>u=Value.type n
abbrev zM:List V->List Value->Prop:=Paired RelV
variable{xs:List V}{us:List Value}
theorem zM.length(r:zM xs us):xs.length=us.length:=Paired.length r
theorem zM.get:∀{xs:List V} {us:List Value} {i:Nat} {x:V},zM xs us->xs[i]? =some x->∃u,us[i]? =some u/\RelV x u
 | _,_,_,_,.nil,e=>by simp at e
 | _,_,0,_,.cons r _,e=>by simp at e;subst e;exact(_,rfl,r)
 | _,_,i+1,x,.cons _ t,e=>by
  obtain⟨u,h1,h2⟩:=zM.get (i:=i) (x:=x) t (by simpa using e);exact(u,by simpa using h1,h2)
variable{u:Value}{x:V}
theorem zM.set(r:RelV x u):∀{xs:List V} {us:List Value} (i:Nat),zM xs us->zM (xs.set i x) (us.set i u)
 | _,_,_,.nil=> .nil
 | _,_,0,.cons _ t=> .cons r t
 | _,_,i+1,.cons q t=> .cons q (zM.set r i t)
def zM.append:∀{xs ys:List V} {us ws:List Value},zM xs us->zM ys ws->zM (xs++ys) (us++ws)
 | _,_,_,_,.nil,s=>s
 | _,_,_,_,.cons r t,s=> .cons r (zM.append t s)
theorem zM.take:∀{xs:List V} {us:List Value} (n:Nat),zM xs us->zM (xs.take n) (us.take n)
 | _,_,0,_=> .nil
 | _,_,_+1,.nil=> .nil
 | _,_,n+1,.cons r t=> .cons r (zM.take n t)
theorem zM.drop:∀{xs:List V} {us:List Value} (n:Nat),zM xs us->zM (xs.drop n) (us.drop n)
 | _,_,0,r=>r
 | _,_,_+1,.nil=> .nil
 | _,_,n+1,.cons _ t=>zM.drop n t
def z1S:Option V->Option Value->Prop
 | some v,some u=>RelV v u
 | none,none=>True
 | _,_=>False
variable{κ:Type}
def KV:List (κ×V)->List (κ×Value)->Prop:=Paired λ(p:κ×V) (q:κ×Value)=>p.1=q.1/\RelV p.2 q.2
noncomputable def kV:Key->V
 | .inl i=> .int i
 | .inr x=> .str x
inductive HO where
 | lst (xs:List V)
 | tup (xs:List V)
 | dK (kvs:List (Key×V))|dT (kvs:List (List Key×V))
 | set (S:Int->Bool) (n:Nat)
 | ins (C dx:Addr) (fs:List (Str×V))
 | own (x:Addr)
 | xd (fs:List (Str×V))
 | met (f x:Addr)
 | rng (lo hi:Int)
 | frz (o:Obj) (u:HO)
 | tbl (ps:Array Value)
 | ext (φ:Heap->Prop)
abbrev Hp:=Addr->Option HO
noncomputable def upd(H:Hp)(a:Addr)(o:HO):Hp:=λb=>if b=a then some o else H b
variable{H:Hp}{a:Addr}{o:HO}
theorem zh:upd H a o a=some o:=by unfold upd;rw[qd rfl]
variable{b:Addr}
theorem zj(h:b≠a):upd H a o b=H b:=by unfold upd;rw[wW h]
theorem z1r{u:HO}:upd (upd H a o) a u=upd H a u:=by
 funext b;unfold upd;split<;>rfl
theorem z40{u:HO}(h:H a=some o)(h':H b=some u)(d:o≠u):a≠b:=by
 intro e;subst e;rw[h]at h';exact d (Option.some.inj h')
theorem zq(h:H a=some o)(h':H b=none):a≠b:=by
 intro e;subst e;rw[h]at h';cases h'
section
variable(P:Program)(w:World)
def jk(H:Hp)(h:Heap)(a:Addr):HO->Prop
 | .lst xs=>xs.length<=sizeLine/\∃(its:List Value) (n:Nat),zM xs its/\h.get? a=some {cls:= .type "list",data:= .seq its.toArray n}
 | .tup xs=>xs.length<=sizeLine/\∃its:List Value,zM xs its/\IsTup h a its.toArray
 | .dK kvs=>kvs.length<=sizeLine/\(a == sysModules)=false/\∃vs,KV kvs vs/\h.DictOf (jw P w) a vs
 | .dT kvs=>kvs.length<=sizeLine/\(a == sysModules)=false/\∃xs:List (List Key×Addr×Value),
   Paired (λ(p:List Key×V) (q:List Key×Addr×Value)=>p.1=q.1/\H q.2.1=some (.tup (p.1.map kV))/\RelV p.2 q.2.2) kvs xs/\
   ∃o es ep,h.get? a=some o/\o.ExactDict/\o.data= .dict es ep/\es.toList=xs.map (entryOfKey (tupleKind (jw P w)))/\(xs.map (·.1)).Nodup
 | .set S n=>h.SetOf (intKind P w) a S n
 | .ins C dx fs=>H dx=some (.own a)/\fs.length<=1000/\dx≠a/\h.get? a=some (PySem.W.instObj C dx)/\
   ∃mA,h.Ns1 dx mA/\(∀f,z1S (fs.lookup f) (mA f))/\PySem.Within mA (fs.map (·.1))
 | .own _=>∃o,h.get? a=some o
 | .xd fs=>∃mA,h.Ns1 a mA/\∀f,z1S (fs.lookup f) (mA f)
 | .rng lo hi=>∃t u v,h.get? a=some {cls:= .type "range",data:= .fields #[.int lo t,.int hi u,.int 1 v]}
 | .frz o u=>h.get? a=some o/\jk H h a u
 | .tbl ps=>h.get? a=some {cls:= .none,data:= .fields ps}
 | .met f x=>h.get? a=some (PySem.W.methodObj (.ref f) (.ref x))
 | .ext φ=>φ h/\(∃o,h.get? a=some o)/\∀h1 h2:Heap,φ h1->(∀o,h1.get? a=some o->h2.get? a=some o)->φ h2
def HOk(H:Hp)(h:Heap):Prop:=∀a o,H a=some o->jk P w H h a o
end
variable{P:Program}{w:World}{H':Hp}{h h':Heap}
theorem jk.lt(x:jk P w H h a o):a<h.objs.size:=by
 cases o with
 | lst xs=>obtain⟨_,_,_,_,e⟩:=x;exact wQ e
 | tup xs=>obtain⟨_,_,_,p⟩:=x;exact p.lt
 | dK kvs=>obtain⟨_,_,_,_,o,_,_,e,_⟩:=x;exact wQ e
 | dT kvs=>obtain⟨_,_,_,_,o,_,_,e,_⟩:=x;exact wQ e
 | set S n=>obtain⟨o,_,_,_,e,_⟩:=x;exact wQ e
 | ins C dx fs=>obtain⟨_,_,_,e,_⟩:=x;exact wQ e
 | own y=>obtain⟨_,e⟩:=x;exact wQ e
 | xd fs=>obtain⟨_,⟨_,_,_,e,_⟩,_⟩:=x;exact wQ e
 | rng lo hi=>obtain⟨_,_,_,e⟩:=x;exact wQ e
 | frz b u=>obtain⟨e,_⟩:=x;exact wQ e
 | tbl ps=>exact wQ (show h.get? a=some _ from x)
 | met f y=>exact wQ (show h.get? a=some _ from x)
 | ext φ=>obtain⟨_,⟨_,e⟩,_⟩:=x;exact wQ e
def Paired.mapP{α β:Type}{F G:α->β->Prop}:∀{l₁:List α} {l₂:List β},Paired F l₁ l₂->(∀a b,F a b->G a b)->Paired G l₁ l₂
 | _,_,.nil,_=> .nil
 | _,_,.cons r t,f=> .cons (f _ _ r) (Paired.mapP t f)
theorem jk.stay(x:jk P w H h a o)(k:∀b u,(b=a\/H b=some (.own a))->h.get? b=some u->h'.get? b=some u)
  (l:∀b,H b=some (.own a)->H' b=some (.own a)) (ht:∀b xs,H b=some (.tup xs)->H' b=some (.tup xs)):jk P w H' h' a o:=by
 induction o with
 | lst xs=>obtain⟨z,its,n,r,e⟩:=x;exact(z,its,n,r,k _ _ (.inl rfl) e)
 | tup xs=>obtain⟨z,its,r,i,e,c⟩:=x;exact(z,its,r,i,k _ _ (.inl rfl) e,c)
 | dK kvs=>obtain⟨z,y,vs,r,i,es,ep,e,c⟩:=x;exact(z,y,vs,r,i,es,ep,k _ _ (.inl rfl) e,c)
 | dT kvs=>
  obtain⟨z,y,xs,r,i,es,ep,e,c⟩:=x;exact(z,y,xs,Paired.mapP r λp q z=>(z.1,ht _ _ z.2.1,z.2.2),i,es,ep,k _ _ (.inl rfl) e,c)
 | set S n=>obtain⟨i,es,ep,t,e,c⟩:=x;exact(i,es,ep,t,k _ _ (.inl rfl) e,c)
 | ins C dx fs=>
  obtain⟨d,z,ne,e,mA,⟨od,es,ep,j,c⟩,r⟩:=x;exact(l _ d,z,ne,k _ _ (.inl rfl) e,mA,(od,es,ep,k _ _ (.inr d) j,c),r)
 | own y=>obtain⟨i,e⟩:=x;exact(i,k _ _ (.inl rfl) e)
 | xd fs=>obtain⟨mA,⟨od,es,ep,e,c⟩,r⟩:=x;exact(mA,(od,es,ep,k _ _ (.inl rfl) e,c),r)
 | rng lo hi=>obtain⟨t,u,v,e⟩:=x;exact(t,u,v,k _ _ (.inl rfl) e)
 | frz i u s=>obtain⟨e,q⟩:=x;exact(k _ _ (.inl rfl) e,s q)
 | tbl ps=>
  have e:h.get? a=some {cls:= .none,data:= .fields ps}:=x
  show h'.get? a=some {cls:= .none,data:= .fields ps}
  exact k a _ (.inl rfl) e
 | met f y=>
  have e:h.get? a=some (PySem.W.methodObj (.ref f) (.ref y)):=x
  show h'.get? a=some (PySem.W.methodObj (.ref f) (.ref y))
  exact k a _ (.inl rfl) e
 | ext φ=>obtain⟨p,⟨o,e⟩,st⟩:=x;exact(st _ _ p λo q=>k _ _ (.inl rfl) q,(o,k _ _ (.inl rfl) e),st)
def HOk.lt(x:HOk P w H h)(e:H a=some o):a<h.objs.size:=(x a o e).lt
theorem HOk.fresh(x:HOk P w H h)(e:h.objs.size<=a):H a=none:=by
 cases q:H a with
 | none=>rfl
 | some u=>exact absurd (wT (x.lt q) e) (QX _)
def HOk.kept(x:HOk P w H h)(k:∀b u,h.get? b=some u->h'.get? b=some u):HOk P w H h':=λa o e=>
 (x a o e).stay (λb u v q=>k b u q) (λv q=>q) λv v q=>q
theorem HOk.laid(x:HOk P w H h)(k:∀b u,h.get? b=some u->h'.get? b=some u)(hp:h.objs.size<=a)(new:jk P w (upd H a o) h' a o):HOk P w (upd H a o) h':=λb u e=>by
 have hn:=x.fresh hp;by_cases hb:b=a
 .subst hb;rw[zh]at e;cases e;exact new
 .rw [zj hb]at e;exact(x b u e).stay (λc v t q=>k c v q) (λc q=>by rw[zj (zq q hn)];exact q) λc xs q=>by rw[zj (zq q hn)];exact q
def Rd(H:Hp)(a:Addr)(u:HO):Prop:=H a=some u\/∃o,H a=some (.frz o u)
theorem Rd.ok{u:HO}(r:Rd H a u)(x:HOk P w H h):jk P w H h a u:=by
 rcases r with r|⟨o,r⟩
 .exact x a u r
 .obtain⟨_,q⟩:=x a _ r;exact q
def Mut:Option HO->Prop
 | some (.lst _)=>True
 | some (.dK _)=>True
 | some (.dT _)=>True
 | some (.set _ _)=>True
 | some (.ins _ _ _)=>True
 | some (.ext _)=>True
 | _=>False
section
variable{x e:Addr}{o':HO}
theorem HOk.write(ok:HOk P w H h)(a:Mut (H x))(he:e=x\/H e=some (.own x))(k:∀b u,b≠e->h.get? b=some u->h'.get? b=some u)(j:∃u,h'.get? e=some u)
  (new:jk P w (upd H x o') h' x o'):HOk P w (upd H x o') h':=λb u q=>by
 have d:∀c y,H c=some (.own y)->c≠x:=λc y r z=>by subst z;rw[r]at a;exact a
 have f:∀c xs,H c=some (.tup xs)->c≠x:=λc xs r z=>by subst z;rw[r]at a;exact a
 by_cases hb:b=x
 .subst hb;rw[zh]at q;cases q;exact new
 .rw [zj hb]at q;by_cases hbe:b=e
  .have q':H b=some (.own x):=by
    rcases he with z|z
    .exact absurd (hbe.trans z) hb
    .rw [hbe];exact z
   rw[q]at q';cases q';obtain⟨v,i⟩:=j;exact(v,by rw[hbe];exact i)
  .refine(ok b u q).stay (λc v hc r=>k c v ?_ r) (λc r=>by rw[zj (d c b r)];exact r) λc xs r=>by rw[zj (f c xs r)];exact r
   rcases hc with rfl|hc
   .exact hbe
   .rintro rfl;rcases he with z|z
    .exact d c b hc z
    .rw [hc]at z;cases z;exact hb rfl
end
structure Un(fs ex:List Addr)(H H':Hp)(h h':Heap):Prop where
 keep:∀b o,h.get? b=some o->H b=none->b∉fs->b∉ex->h'.get? b=some o
 slot:∀b o,h.get? b=some o->H b=none->b∈fs->b∉ex->∃sl,h'.get? b=some {o with slots:=sl}
 free:∀b o,h.get? b=some o->H b=none->b∉ex->H' b=none
 there:∀b o,h.get? b=some o->b∉ex->∃o',h'.get? b=some o'
 tups:∀b xs,H b=some (.tup xs)->H' b=some (.tup xs)
 frzs:∀b o u,H b=some (.frz o u)->H' b=some (.frz o u)
 tbls:∀b ps,H b=some (.tbl ps)->∃more,H' b=some (.tbl (ps++more))
section
variable{fs iT ex EA:List Addr}{H1 H2:Hp}{h1 h2:Heap}{x e:Addr}
theorem Un.any(u:Un fs ex H H1 h h1){a:Obj}(q:h.get? b=some a)(n:H b=none)(c:b∉ex):∃sl,h1.get? b=some {a with slots:=sl}:=by
 by_cases hb:b∈fs
 .exact u.slot b a q n hb c
 .exact(a.slots,u.keep b a q n hb c)
theorem Un.kept(k:∀b u,h.get? b=some u->h'.get? b=some u):Un fs ex H H h h':=
 (λb a q v v v=>k b a q,λb a q v v v=>(a.slots,k b a q),λv v v n v=>n,λb a q v=>(a,k b a q),λv v q=>q,λv v v q=>q,λv ps q=>(#[],by rw[q];simp))
def Un.refl:Un fs ex H H h h:=Un.kept λv v q=>q
theorem Un.laid(k:∀b u,h.get? b=some u->h'.get? b=some u)(hp:h.objs.size<=a)(hn:H a=none):Un fs ex H (upd H a o) h h' where
 keep:=λb u q v v v=>k b u q
 slot:=λb u q v v v=>(u.slots,k b u q)
 free:=λb u q n v=>by rw[zj (qc (wT (wQ q) hp))];exact n
 there:=λb u q v=>(u,k b u q)
 tups:=λb xs q=>by rw[zj (zq q hn)];exact q
 frzs:=λb u xs q=>by rw[zj (zq q hn)];exact q
 tbls:=λb ps q=>(#[],by rw[zj (zq q hn),q];simp)
theorem Un.write(a:Mut (H x))(he:e=x\/H e=some (.own x))(k:∀b u,b≠e->h.get? b=some u->h'.get? b=some u)(f:∃u,h'.get? e=some u):Un fs ex H (upd H x o) h h':=by
 have d:∀b,H b=none->b≠x:=λb n z=>by subst z;rw[n]at a;exact a
 have c:∀b,H b=none->b≠e:=λb n z=>by
  subst z;rcases he with r|r
  .exact d b n r
  .rw [n]at r;cases r
 have hm:∀b u,H b=some u->¬Mut (some u)->b≠x:=λb u q nm z=>by subst z;rw[q]at a;exact nm a
 refine(λb u q n v v=>k b u (c b n) q,λb u q n v v=>(u.slots,k b u (c b n) q),λb u q n v=>by rw[zj (d b n)];exact n,λb u q v=>?_,
  λb xs q=>by rw[zj (hm b _ q λz=>z)];exact q,λb u xs q=>by rw[zj (hm b _ q λz=>z)];exact q,λb ps q=>(#[],by rw[zj (hm b _ q λz=>z),q];simp))
 by_cases hbe:b=e
 .subst hbe;exact f
 .exact(u,k b u hbe q)
end
noncomputable def trk(h:Heap)(H:Hp):List Addr:=(List.range h.objs.size).filter λa=>(H a).isSome
noncomputable def z5n(h:Heap)(H:Hp):Heap:=PySem.W.hideAll h (trk h H)
def zb2(h:Heap)(H:Hp):(z5n h H).objs.size=h.objs.size:=PySem.W.hideAll_size _ _
theorem zc0{o:Obj}(e:h.get? b=some o)(n:H b=none):(z5n h H).get? b=some o:=
 PySem.W.hideAll_get _ e λhm=>by
  have q:(H b).isSome=true:=(Qr.mp hm).2;rw[n]at q;simp at q
theorem zek{o:Obj}(e:(z5n h H).get? b=some o):h.get? b=some o/\H b=none:=by
 have a:h.get? b=some o:=PySem.W.of_hideAll (trk h H) e;refine(a,?_);cases q:H b with
 | none=>rfl
 | some x=>
  have hm:b∈trk h H:=Qr.mpr (Qm.mpr (wQ a),by simp[q]);have z:(z5n h H).get? b=none:=PySem.W.hideAll_none (trk h H) hm;rw[z]at e;cases e
structure Mod(K:W.Frag)(mg:Str->Option Value)(base:Heap):Prop where
 kin:K.In base
 glob:base.Ns mainGlobals mg
 blt:∃mb,base.Ns builtinsNs mb/\∀x:Str,x≠"__name__"->mb x=bootBuiltins x
 nolimit:base.NoLimit
structure Cx where
 prog:Program
 w:World
 K:W.Frag
 mg:Str->Option Value
 base:Heap
 A:Around
 N:List Str
 s₀:Shared
 H₀:Hp
 env:Env
 outer:List Env
 stack:List Env
 ex:List Addr
 fn:Str->Bool
 calm:Bool
 pn:List (Addr×Obj)
 xe:Value->Shared->Prop
noncomputable def frs(l:List Env):List Addr:=l.filterMap (·.frame)
noncomputable abbrev Cx.fs(X:Cx):List Addr:=frs X.outer
def Vis(sc:Scope)(x:Str):Prop:=sc.names.lookup x=some .local\/sc.names.lookup x=some .cell\/sc.names.lookup x=some .free
def Loc(sc:Scope)(x:Str):Prop:=sc.names.lookup x=some .local\/sc.names.lookup x=some .cell
def Look(env:Env)(h:Heap)(m:Str->Option Value)(x:Str)(u:Value):Prop:=
 (env.kindOf x=some .local/\m x=some u)\/((env.kindOf x=some .cell\/env.kindOf x=some .free)/\∃c,env.cells.lookup x=some c/\h.IsCell c (some u))
structure Cx.Ok(X:Cx):Prop where
 mod:Mod X.K X.mg X.base
 kind:X.env.scope.kind= .function
 glob:X.env.globals=mainGlobals
 blt:X.env.builtins=builtinsNs
 above:X.s₀.heap.objs.size<=X.env.locals
 inj:∀x y c,X.env.cells.lookup x=some c->X.env.cells.lookup y=some c->x=y
 has:∀x,(X.env.kindOf x=some .cell\/X.env.kindOf x=some .free)->∃c,X.env.cells.lookup x=some c
 cab:∀x c,X.fn x=true->X.env.cells.lookup x=some c->X.s₀.heap.objs.size<=c
 hd:X.calm=true->X.A.handled=none
 frames:X.A.frames=some X.stack
 stk:X.stack=X.outer\/(X.stack=X.env::X.outer/\X.env.frame=some X.env.locals)
 exf:∀b∈X.ex,b≠X.env.locals/\∀x c,X.env.cells.lookup x=some c->c≠b
 bs:∀b o,X.base.get? b=some o->X.s₀.heap.get? b=some o/\X.H₀ b=none
 bsz:X.base.objs.size<=X.s₀.heap.objs.size
 noex:∀b o,X.base.get? b=some o->b∉X.ex
 exfs:∀b∈X.ex,b∉X.fs
 funs:X.s₀.heap.FunFrames X.base X.outer
 frf:∀b∈X.fs,X.H₀ b=none
structure Inv(X:Cx)(pins:List (Addr×Obj))(σ:List (Option V))(H:Hp)(s:Shared):Prop where
 ok:X.Ok
 os:s.os=X.s₀.os
 bare:AllBare s.gens
 base:Un X.fs X.ex X.H₀ H X.s₀.heap s.heap
 loc:∃m,s.heap.Ns X.env.locals m/\∀(i:Nat) (x:Str) (v:V),X.N[i]? =some x->σ[i]? =some (some v)->Vis X.env.scope x->∃u,RelV v u/\Look X.env s.heap m x u
 cell:∀x c,X.env.cells.lookup x=some c->∃v,s.heap.IsCell c v
 free:H X.env.locals=none
 freeC:∀x c,X.env.cells.lookup x=some c->H c=none
 pin:∀p∈X.pn++pins,s.heap.get? p.1=some p.2/\H p.1=none/\p.1≠X.env.locals/\p.1∉X.fs/\∀v,p.2.data≠ .cell v
 hok:HOk X.prog X.w H s.heap
 len:σ.length=X.N.length
variable{x:Str}{X:Cx}{pins:List (Addr×Obj)}{s s':Shared}{g':Array GenState}{t' i:Nat}{d':Drawn}{ch:List Addr}{it:Addr}{N:List Str}{M:Model}{A:Around}{E:Value->Shared->Prop}
section
variable{σ:List (Option V)}
theorem Cx.Ok.nofr(ok:X.Ok){o:Obj}(e:X.base.get? b=some o):b∉X.fs:=λa=>by
 have:=(ok.funs.mem a).1;rw[e]at this;cases this
def Inv.bs(I:Inv X pins σ H s):∀b o,X.base.get? b=some o->s.heap.get? b=some o/\H b=none:=λb o e=>
 (I.base.keep b o (I.ok.bs b o e).1 (I.ok.bs b o e).2 (I.ok.nofr e) (I.ok.noex b o e),I.base.free b o (I.ok.bs b o e).1 (I.ok.bs b o e).2 (I.ok.noex b o e))
def Inv.bk(I:Inv X pins σ H s):∀b o,X.base.get? b=some o->s.heap.get? b=some o:=λb o e=>(I.bs b o e).1
def Inv.mod(I:Inv X pins σ H s):Mod X.K X.mg X.base:=I.ok.mod
def Inv.kIn(I:Inv X pins σ H s):X.K.In s.heap:=I.ok.mod.kin.keeps I.bk
def Inv.nolimit(I:Inv X pins σ H s):s.heap.NoLimit:=I.ok.mod.nolimit.keeps I.bk
def Inv.lt(I:Inv X pins σ H s):X.env.locals<s.heap.objs.size:=let ⟨_,hn,_⟩:=I.loc;hn.lt
theorem Inv.sz(I:Inv X pins σ H s):X.s₀.heap.objs.size<=s.heap.objs.size:=wY I.ok.above (w1D I.lt)
theorem Inv.nofs(I:Inv X pins σ H s)(h:s.heap.objs.size<=a):a∉X.fs:=λb=>by
 obtain⟨_,o,c,_⟩:=I.ok.funs.mem b;exact absurd (wT (wQ c) (wY I.sz h)) (QX _)
theorem Inv.cne(I:Inv X pins σ H s):∀x c,X.env.cells.lookup x=some c->c≠X.env.locals:=λx c e z=>by
 obtain⟨v,o,a,hd⟩:=I.cell x c e;obtain⟨m,⟨o',es,ep,d,b,_⟩,_⟩:=I.loc;rw[z,d]at a;cases a;rw[b]at hd;cases hd
theorem Inv.funs(I:Inv X pins σ H s):s.heap.FunFrames X.base X.outer:=by
 have all:∀(l:List Env),(∀b∈frs l,b∈X.fs)->X.s₀.heap.FunFrames X.base l->s.heap.FunFrames X.base l:=by
  intro l
  induction l with
  | nil=>intro _ _;trivial
  | cons env r h=>
   intro hs hl;obtain⟨i,⟨L,o,d,hn,f,hd⟩,hr⟩:=hl;have a:L∈X.fs:=hs L (by unfold frs;rw[List.filterMap_cons,d];exact qy);obtain⟨sl,e⟩:=I.base.slot L o f (I.ok.frf L a) a λz=>I.ok.exfs L z a
   exact(i,(L,_,d,hn,e,hd),h (λb c=>hs b (by unfold frs;rw[List.filterMap_cons,d];exact wZ _ c)) hr)
 exact all X.outer (λv c=>c) I.ok.funs
theorem Inv.stack(I:Inv X pins σ H s):s.heap.FunFrames X.base X.stack:=by
 rcases I.ok.stk with e|⟨e,a⟩
 .rw [e];exact I.funs
 .rw [e];obtain⟨m,hn,_⟩:=I.loc;refine .cons (by rw[I.ok.kind];decide) a hn ?_ I.funs;exact Heap.get?_none_of_le (wY I.ok.bsz I.ok.above)
theorem Inv.stkSub(I:Inv X pins σ H s):∀b∈frs X.stack,b∈X.env.locals::X.fs:=λb a=>by
 rcases I.ok.stk with e|⟨e,c⟩
 .rw [e]at a;exact wZ _ a
 .rw [e]at a;unfold frs at a;rw[List.filterMap_cons,c]at a;exact a
theorem Inv.stkFree(I:Inv X pins σ H s):∀b∈frs X.stack,H b=none:=λb hb=>by
 rcases wL.mp (I.stkSub b hb)with e|hb
 .rw [e];exact I.free
 .obtain⟨_,o,a,_⟩:=I.ok.funs.mem hb;exact I.base.free b o a (I.ok.frf b hb) λz=>I.ok.exfs b z hb
theorem Inv.step(I:Inv X pins σ H s)
  (y:∀b∈ch,(b∈X.ex\/X.s₀.heap.objs.size<=b)/\b≠X.env.locals/\(∀x c,X.env.cells.lookup x=some c->c≠b)/\∀p∈X.pn++pins,p.1≠b)
  (keep:∀b o,b≠X.env.locals->b∉X.fs->b∉ch->s.heap.get? b=some o->H b=none->h'.get? b=some o)
  (slot:∀b o,b≠X.env.locals->b∈X.fs->b∉ch->s.heap.get? b=some o->H b=none->∃sl,h'.get? b=some {o with slots:=sl}) (free:∀b o,b∉ch->s.heap.get? b=some o->H b=none->H' b=none)
  (there:∀b o,b∉ch->s.heap.get? b=some o->∃o',h'.get? b=some o')
  (tups:∀b xs,H b=some (.tup xs)->H' b=some (.tup xs)) (frzs:∀b o u,H b=some (.frz o u)->H' b=some (.frz o u)) (tbls:∀b ps,H b=some (.tbl ps)->∃more,H' b=some (.tbl (ps++more)))
  (ns:∀m,s.heap.Ns X.env.locals m->h'.Ns X.env.locals m) (hok:HOk X.prog X.w H' h') (F:AllBare g'):
  Inv X pins σ H' {s with heap:=h',gens:=g',drawn:=d',toks:=t'}:=by
 have neL:∀b o,X.s₀.heap.get? b=some o->b≠X.env.locals:=λb o e=>qc (wT (wQ e) I.ok.above)
 have B:∀b o,X.s₀.heap.get? b=some o->b∉X.ex->b∉ch:=λb o e a h=>by
  rcases(y b h).1 with z|z
  .exact a z
  .exact absurd (wT (wQ e) z) (QX _)
 have cellK:∀x c,X.env.cells.lookup x=some c->∀v,s.heap.IsCell c v->h'.IsCell c v:=λx c e v ⟨o,j,hd⟩=>by
  have A:c∉ch:=λz=>(y c z).2.2.1 x c e rfl
  by_cases hc:c∈X.fs
  .obtain⟨sl,q⟩:=slot c o (I.cne x c e) hc A j (I.freeC x c e);exact(_,q,hd)
  .exact(o,keep c o (I.cne x c e) hc A j (I.freeC x c e),hd)
 refine(I.ok,I.os,F,(λb o e n h a=>?_,λb o e n h a=>?_,λb o e n a=>?_,λb o e a=>?_,λb xs e=>tups b xs (I.base.tups b xs e),λb o xs e=>frzs b o xs (I.base.frzs b o xs e),λb ps e=>?_),?_,λx c e=>?_,?_,λx c e=>?_,λp hp=>?_,hok,I.len)
 .exact keep b o (neL b o e) h (B b o e a) (I.base.keep b o e n h a) (I.base.free b o e n a)
 .obtain⟨sl,f⟩:=I.base.slot b o e n h a;obtain⟨C,t⟩:=slot b _ (neL b o e) h (B b o e a) f (I.base.free b o e n a);exact(C,t)
 .obtain⟨o',f⟩:=I.base.there b o e a;exact free b o' (B b o e a) f (I.base.free b o e n a)
 .obtain⟨o',f⟩:=I.base.there b o e a;exact there b o' (B b o e a) f
 .obtain⟨D,f⟩:=I.base.tbls b ps e;obtain⟨G,t⟩:=tbls b _ f;exact(D++G,by rw[t,Array.append_assoc])
 .obtain⟨m,hn,hl⟩:=I.loc;refine(m,ns m hn,λi x v f t E=>?_);obtain⟨u,r,l⟩:=hl i x v f t E;refine(u,r,?_);rcases l with l|⟨k,c,e,z⟩
  .exact .inl l
  .exact .inr (k,c,e,cellK x c e _ z)
 .obtain⟨v,z⟩:=I.cell x c e;exact(v,cellK x c e v z)
 .obtain⟨m,⟨o,_,_,j,_⟩,_⟩:=I.loc;exact free _ o (λz=>(y _ z).2.1 rfl) j I.free
 .obtain⟨v,o,j,hd⟩:=I.cell x c e;exact free c o (λz=>(y c z).2.2.1 x c e rfl) j (I.freeC x c e)
 .obtain⟨e,n,ne,nf,d⟩:=I.pin p hp;have A:p.1∉ch:=λz=>(y p.1 z).2.2.2 p hp rfl
  exact(keep p.1 p.2 ne nf A e n,free p.1 p.2 A e n,ne,nf,d)
theorem Inv.un(I:Inv X pins σ H s)(u:Un X.fs [] H H' s.heap h')(hok:HOk X.prog X.w H' h'):Inv X pins σ H' {s with heap:=h',toks:=t'}:=by
 obtain⟨m,⟨o,es,ep,d,r⟩,_⟩:=id I.loc;obtain⟨sl,h⟩:=u.any d I.free (by simp);exact I.step (g':=s.gens) (d':=s.drawn) (ch:= []) (λv z=>nomatch z) (λb o v a v e n=>u.keep b o e n a (by simp)) (λb o v a v e n=>u.slot b o e n a (by simp)) (λb o v e n=>u.free b o e n (by simp)) (λb o v e=>u.there b o e (by simp)) u.tups u.frzs u.tbls (λj hm=>by
  obtain⟨o',i,f,c,r'⟩:=hm;rw[d]at c;cases c;exact(_,i,f,h,r')) hok I.bare
theorem Inv.call(I:Inv X pins σ H s)(u:Un (frs X.stack) ch H H' s.heap h')(hok:HOk X.prog X.w H' h')(q:AllBare g')
  (h:∀b∈ch,(b∈X.ex\/X.s₀.heap.objs.size<=b)/\b≠X.env.locals/\(∀x c,X.env.cells.lookup x=some c->c≠b)/\∀p∈X.pn++pins,p.1≠b):
  Inv X pins σ H' {s with heap:=h',gens:=g',drawn:=d',toks:=t'}:=by
 obtain⟨m,⟨o,es,ep,f,r⟩,_⟩:=id I.loc;obtain⟨sl,a⟩:=u.any f I.free λz=>(h _ z).2.1 rfl
 exact I.step (ch:=ch) h (λb o a l hc e n=>u.keep b o e n (λz=>(wL.mp (I.stkSub b z)).elim a l) hc) (λb o v v hc e n=>u.any e n hc) (λb o hc e n=>u.free b o e n hc) (λb o hc e=>u.there b o e hc) u.tups u.frzs u.tbls (λt hm=>by
  obtain⟨o',j,i,d,r'⟩:=hm;rw[f]at d;cases d;exact(_,j,i,a,r')) hok q
theorem Inv.turned(I:Inv X pins σ H s)(k:∀b o,b≠it->s.heap.get? b=some o->h'.get? b=some o)(hn:H it=none)(d:it≠X.env.locals)
  (h1:it∈X.ex\/X.s₀.heap.objs.size<=it) (h2:∀x c,X.env.cells.lookup x=some c->c≠it) (f:∀p∈X.pn++pins,p.1≠it):Inv X pins σ H {s with heap:=h',toks:=t'}:=by
 have a:∀b u,H b=some u->b≠it:=λb u e z=>by rw[z,hn]at e;cases e
 refine I.step (g':=s.gens) (d':=s.drawn) (ch:= [it]) (λb i=>?_) (λb o t t hc e t=>k b o (λz=>hc (by simp[z])) e) (λb o t t hc e t=>(o.slots,k b o (λz=>hc (by simp[z])) e)) (λt t t t n=>n)
  (λb o hc e=>(o,k b o (λz=>hc (by simp[z])) e)) (λt t e=>e) (λt t t e=>e) (λb ps e=>(#[],by rw[e];simp)) (λm hm=>?_) (λb u e=>?_) I.bare
 .have e:b=it:=by simpa using i
  subst e;exact(h1,d,h2,f)
 .obtain⟨o,es,ep,h,r⟩:=hm;exact(o,es,ep,k _ o (w1G d) h,r)
 .refine(I.hok b u e).stay (λc v hc q=>k c v ?_ q) (λt q=>q) λt t q=>q
  rcases hc with z|z
  .rw [z];exact a b u e
  .exact a c _ z
def Inv.tok(I:Inv X pins σ H s)(t:Nat):Inv X pins σ H {s with toks:=t}:=I.un (h':=s.heap) (t':=t) Un.refl I.hok
def Inv.kept(I:Inv X pins σ H s)(k:∀b u,s.heap.get? b=some u->h'.get? b=some u):Inv X pins σ H {s with heap:=h',toks:=t'}:=I.un (Un.kept k) (I.hok.kept k)
def Inv.laid(I:Inv X pins σ H s)(k:∀b u,s.heap.get? b=some u->h'.get? b=some u)(hp:s.heap.objs.size<=a)(new:jk X.prog X.w (upd H a o) h' a o):
  Inv X pins σ (upd H a o) {s with heap:=h',toks:=t'}:=I.un (Un.laid k hp (I.hok.fresh hp)) (I.hok.laid k hp new)
def Inv.write{x e:Addr}(I:Inv X pins σ H s)(a:Mut (H x))(he:e=x\/H e=some (.own x))(k:∀b u,b≠e->s.heap.get? b=some u->h'.get? b=some u)(c:∃u,h'.get? e=some u)
  (new:jk X.prog X.w (upd H x o) h' x o):Inv X pins σ (upd H x o) {s with heap:=h',toks:=t'}:=I.un (Un.write a he k c) (I.hok.write a he k c new)
def Inv.pins_of{a:List (Addr×Obj)}(I:Inv X pins σ H s)(h:∀p∈a,s.heap.get? p.1=some p.2/\H p.1=none/\p.1≠X.env.locals/\p.1∉X.fs/\∀v,p.2.data≠ .cell v):Inv X a σ H s:=
 (I.ok,I.os,I.bare,I.base,I.loc,I.cell,I.free,I.freeC,λp hp=>(wE.mp hp).elim (λz=>I.pin p (q5 _ z)) (h p),I.hok,I.len)
theorem z8e(e:N.Nodup){j:Nat}(a:N[i]? =some x)(b:N[j]? =some x):i=j:=by
 obtain⟨h1,c⟩:=wg.mp a;obtain⟨h2,d⟩:=wg.mp b;exact(List.getElem_inj e).mp (c.trans d.symm)
variable{Q:Unit->Shared->Prop}
theorem z63{v:V}(I:Inv X pins σ H s)(K:X.N.Nodup)(hi:X.N[i]? =some x)(l:Loc X.env.scope x)(r:RelV v u)
  (h:∀s',Inv X pins (σ.set i (some v)) H s'->(∃a,Heap.SameBut a s.heap s'.heap/\(a=X.env.locals\/X.env.cells.lookup x=some a))->Q () s') (T:autoParam (X.fn x=true\/X.env.scope.names.lookup x=some .local) z_a._auto_1):wpAny M A (storeName X.env x u) Q E s:=by
 obtain⟨m,hn,hl⟩:=id I.loc;have U:(X.env.scope.kind == .class||(X.env.scope.kind == .module&&X.env.locals != X.env.globals))=false:=by rw[I.ok.kind];rfl
 have hiσ:i<σ.length:=by rw[I.len];exact(wg.mp hi).1
 have cne:=I.cne;have tracked:∀{a:Addr} {h':Heap},(∃o,s.heap.get? a=some o/\H a=none)->Heap.SameBut a s.heap h'->HOk X.prog X.w H h':=λ{a h'} ha hs b Z e=>by
  obtain⟨_,_,J⟩:=ha;refine(I.hok b Z e).stay (λc C hc q=>(hs.2 c ?_).trans q) (λg q=>q) λg g q=>q
  rintro rfl;rcases hc with rfl|hc
  .rw [J]at e;cases e
  .rw [J]at hc;cases hc
 rcases l with hk|hk
 .refine wpAny_storeName_local hk hn (λh' S hs=>?_) U;obtain⟨Y,_,_,P,_⟩:=id hn;refine h _ (I.ok,I.os,I.bare,(λb o e n B l=>?_,λb o e n B l=>?_,I.base.free,λb o e l=>?_,I.base.tups,I.base.frzs,I.base.tbls),(_,S,λj y v' f t F=>?_),λy c e=>?_,I.free,I.freeC,λp hp=>?_,tracked (Y,P,I.free) hs,by simpa using I.len) (_,hs,.inl rfl)
  .exact(hs.2 b (qc (wT (wQ e) I.ok.above))).trans (I.base.keep b o e n B l)
  .obtain⟨sl,f⟩:=I.base.slot b o e n B l;exact(sl,(hs.2 b (qc (wT (wQ e) I.ok.above))).trans f)
  .obtain⟨o',f⟩:=I.base.there b o e l;exact(o',(hs.2 b (qc (wT (wQ e) I.ok.above))).trans f)
  .by_cases hj:j=i
   .subst hj;rw[hi]at f;cases f;rw[w17 hiσ]at t;cases t;exact(u,r,.inl (hk,by simp))
   .rw [List.getElem?_set_ne (w1G hj)]at t;obtain⟨G,r',q⟩:=hl j y v' f t F;refine(G,r',?_);rcases q with⟨k,e⟩|⟨k,c,e,z⟩
    .refine .inl (k,?_);have:y≠x:=λe=>hj (z8e K f (e ▸ hi))
     simp[this,e]
    .exact .inr (k,c,e,z.sameBut hs (cne y c e))
  .obtain⟨C,z⟩:=I.cell y c e;exact(C,z.sameBut hs (cne y c e))
  .obtain⟨e,n,ne,nf,d⟩:=I.pin p hp;exact((hs.2 p.1 ne).trans e,n,ne,nf,d)
 .have D:X.fn x=true:=by
   rcases T with z|z
   .exact z
   .rw [z]at hk;cases hk
  obtain⟨c,hc⟩:=I.ok.has x (.inl hk);obtain⟨C,z⟩:=I.cell x c hc;refine wpAny_storeName_cell I.ok.kind hk hc z (λh' O hs=>?_);obtain⟨oc,L,R⟩:=id z;refine h {s with heap:=h'} (I.ok,I.os,I.bare,(λb o e n B l=>?_,λb o e n B l=>?_,I.base.free,λb o e l=>?_,I.base.tups,I.base.frzs,I.base.tbls),(m,hn.sameBut hs (w1G (cne x c hc)),λj y v' f t F=>?_),λy c' e=>?_,I.free,I.freeC,λp hp=>?_,tracked (oc,L,I.freeC x c hc) hs,by simpa using I.len) (c,hs,.inr hc)
  .exact(hs.2 b (qc (wT (wQ e) (I.ok.cab x c D hc)))).trans (I.base.keep b o e n B l)
  .obtain⟨sl,f⟩:=I.base.slot b o e n B l;exact(sl,(hs.2 b (qc (wT (wQ e) (I.ok.cab x c D hc)))).trans f)
  .obtain⟨o',f⟩:=I.base.there b o e l;exact(o',(hs.2 b (qc (wT (wQ e) (I.ok.cab x c D hc)))).trans f)
  .by_cases hj:j=i
   .subst hj;rw[hi]at f;cases f;rw[w17 hiσ]at t;cases t;exact(u,r,.inr (.inl hk,c,hc,O))
   .rw [List.getElem?_set_ne (w1G hj)]at t;obtain⟨G,r',q⟩:=hl j y v' f t F;refine(G,r',?_);rcases q with q|⟨k,c',e,z'⟩
    .exact .inl q
    .refine .inr (k,c',e,z'.sameBut hs ?_);rintro rfl;exact hj (z8e K f (I.ok.inj _ _ _ e hc ▸ hi))
  .by_cases ik:c'=c
   .subst ik;exact(_,O)
   .obtain⟨w2,z2⟩:=I.cell y c' e;exact(w2,z2.sameBut hs ik)
  .obtain⟨e,n,ne,nf,d⟩:=I.pin p hp;refine((hs.2 p.1 ?_).trans e,n,ne,nf,d);intro q;rw[q,L]at e;have q':oc=p.2:=Option.some.inj e;exact d C (by rw[<-q'];exact R)
theorem z81{v:V}(I:Inv X pins σ H s)(d:X.N.Nodup)(hi:X.N[i]? =some x)(a:Loc X.env.scope x)(r:RelV v u)
  (h:∀s',Inv X pins (σ.set i (some v)) H s'->Q () s') (c:autoParam (X.fn x=true\/X.env.scope.names.lookup x=some .local) z_a._auto_1):wpAny M A (storeName X.env x u) Q E s:=
 z63 I d hi a r (λs' b t=>h s' b) c
theorem Inv.call'(I:Inv X pins σ H s)(f:s'.os=s.os)(u:Un (frs X.stack) ch H H' s.heap s'.heap)(hok:HOk X.prog X.w H' s'.heap)(d:AllBare s'.gens)
  (a:∀b∈ch,(b∈X.ex\/X.s₀.heap.objs.size<=b)/\b≠X.env.locals/\(∀x c,X.env.cells.lookup x=some c->c≠b)/\∀p∈X.pn++pins,p.1≠b):Inv X pins σ H' s':=by
 obtain⟨h',g',d',t',o'⟩:=s';have e:o'=s.os:=f;subst e;exact I.call (g':=g') (t':=t') (d':=d') u hok d a
end
abbrev XK:=Value->Option Addr->Hp->Prop
abbrev St:=List (Option V)
abbrev VK:=V->Hp->Prop
abbrev TE:=St->Hp->VK->Prop
abbrev TT:=St->Hp->(Bool->Hp->Prop)->Prop
abbrev TA:=St->Hp->(List V->Hp->Prop)->Prop
structure Ends where
 nx:St->Hp->Prop
 rt:VK
 bk:St->Hp->Prop:=λ_ _=>False
 ct:St->Hp->Prop:=λ_ _=>False
abbrev TS:=Ends->St->Hp->Prop
def EP(X:Cx)(pins:List (Addr×Obj))(σ:St)(Q:VK)(u:Value)(s':Shared):Prop:=∃v H',Inv X pins σ H' s'/\RelV v u/\Q v H'
def TP(X:Cx)(pins:List (Addr×Obj))(σ:St)(Q:Bool->Hp->Prop)(b:Bool)(s':Shared):Prop:=∃H',Inv X pins σ H' s'/\Q b H'
def AP(X:Cx)(pins:List (Addr×Obj))(σ:St)(Q:List V->Hp->Prop)(us:List Value)(s':Shared):Prop:=∃vs H',Inv X pins σ H' s'/\zM vs us/\Q vs H'
def SP(X:Cx)(pins:List (Addr×Obj))(D:Ends)(f:Flow)(s':Shared):Prop:=
 match f with
 | .next=>∃σ' H',Inv X pins σ' H' s'/\D.nx σ' H'
 | .brk=>∃σ' H',Inv X pins σ' H' s'/\D.bk σ' H'
 | .cont=>∃σ' H',Inv X pins σ' H' s'/\D.ct σ' H'
 | .ret u=>∃v σ' H',Inv X pins σ' H' s'/\RelV v u/\D.rt v H'
def PE(X:Cx)(e:Expr)(t:TE):Prop:=
 ∀(pins:List (Addr×Obj)) (s:Shared) (σ:St) (H:Hp) (Q:VK),Inv X pins σ H s->t σ H Q->wpAny (model X.prog X.w) X.A (eval e X.env) (EP X pins σ Q) X.xe s
def PT(X:Cx)(e:Expr)(t:TT):Prop:=
 ∀(pins:List (Addr×Obj)) (s:Shared) (σ:St) (H:Hp) (Q:Bool->Hp->Prop),Inv X pins σ H s->t σ H Q->wpAny (model X.prog X.w) X.A (isTrue e X.env (eval e X.env)) (TP X pins σ Q) X.xe s
def PW(X:Cx)(e:Expr)(t:TT):Prop:=
 ∀(whole:Sem Value) (pins:List (Addr×Obj)) (s:Shared) (σ:St) (H:Hp) (Q:Bool->Hp->Prop),Inv X pins σ H s->t σ H Q->wpAny (model X.prog X.w) X.A (isTrue e X.env whole) (TP X pins σ Q) X.xe s
variable{e:Expr}
def PW.pt{t:TT}(h:PW X e t):PT X e t:=h _
def PA(X:Cx)(es:List Expr)(t:TA):Prop:=
 ∀(pos:Pos) (pins:List (Addr×Obj)) (s:Shared) (σ:St) (H:Hp) (Q:List V->Hp->Prop),Inv X pins σ H s->t σ H Q->wpAny (model X.prog X.w) X.A (spliced (backTo pos (starEach es X.env))) (AP X pins σ Q) X.xe s
def PS(X:Cx)(st:Stmt)(t:TS):Prop:=
 ∀(pins:List (Addr×Obj)) (s:Shared) (σ:St) (H:Hp) (D:Ends),Inv X pins σ H s->t D σ H->wpAny (model X.prog X.w) X.A (exec st X.env) (SP X pins D) X.xe s
def PSs(X:Cx)(st:List Stmt)(t:TS):Prop:=
 ∀(pins:List (Addr×Obj)) (s:Shared) (σ:St) (H:Hp) (D:Ends),Inv X pins σ H s->t D σ H->wpAny (model X.prog X.w) X.A (execs st X.env) (SP X pins D) X.xe s
def thn{α:Type}{t:Sem α}{Q b:α->Shared->Prop}(h:wpAny M A t Q E s)(c:∀a s,Q a s->b a s):wpAny M A t b E s:=Qa h c λv v x=>x
variable{Q:Value->Shared->Prop}{ta:TE}
section
def z7C(i:Nat):TE:=λσ H Q=>∃v,σ[i]? =some (some v)/\Q v H
def tC(v:V):TE:=λu H Q=>Q v H
theorem z2Z{pos:Pos}(a:X.N[i]? =some x)(b:Vis X.env.scope x)(hd: ~~~((x == ("__debug__":Str))=false))(d: ~~~((x == ("__classdict__":Str))=false)):PE X (.Name x pos) (z7C i):=by
 intro pins s σ H Q I h;obtain⟨v,e,h⟩:=h;obtain⟨m,hn,hl⟩:=I.loc;obtain⟨u,r,l⟩:=hl i x v a e b;have fin:EP X pins σ Q u s:=(v,H,I,r,h);rcases l with⟨hk,hm⟩|⟨hk,c,hc,ay⟩
 .exact wpAny_Name (wpAny_loadName_local I.ok.kind hk hn hm fin) hd
 .rcases hk with hk|hk
  .exact wpAny_Name (wpAny_loadName_cell I.ok.kind hk hc ay fin) hd
  .exact wpAny_Name (wpAny_loadName_free I.ok.kind hk hc ay fin d) hd
def zd{i j pos}:PE X (.Constant (.int i) j pos) (tC (.int i)):=λv v v H v I h=>wpAny_Constant_int (.int i,H,I.tok _,(_,rfl),h)
def jv{b j pos}:PE X (.Constant (.bool b) j pos) (tC (.bl b)):=λv v v H v I h=>Constant_bool (.bl b,H,I,rfl,h)
def kC{j pos}:PE X (.Constant .none j pos) (tC .non):=λv v v H v I h=>Constant_none (.non,H,I,rfl,h)
def zn{x j pos}:PE X (.Constant (.str x) j pos) (tC (.str x)):=λv v v H v I h=>Calls.Constant_str (.str x,H,I.tok _,(_,rfl),h)
def Gl(X:Cx)(x:Str):Prop:=X.env.kindOf x=some .globalImplicit
theorem z3v{σ:St}{pos:Pos}(I:Inv X pins σ H s)(a:Gl X x)(hm:X.mg x=some u)(h:Q u s)
  (hd: ~~~((x == ("__debug__":Str))=false)):wpAny (model X.prog X.w) X.A (eval (.Name x pos) X.env) Q E s:=
 Calls.Name_function_global I.ok.kind a (Calls.loadGlobal_global (by rw[I.ok.glob];exact I.mod.glob.keeps I.bk) hm h) hd
theorem z1d{σ:St}{pos:Pos}(I:Inv X pins σ H s)(b:Gl X x)(hm:X.mg x=none)(a:bootBuiltins x=some u)(h:Q u s)
  (hn: ~~~(x≠"__name__")) (hd: ~~~((x == ("__debug__":Str))=false)):wpAny (model X.prog X.w) X.A (eval (.Name x pos) X.env) Q E s:=by
 obtain⟨mb,h1,h2⟩:=I.mod.blt;exact Calls.Name_function_global I.ok.kind b (Calls.loadGlobal_builtin (by rw[I.ok.glob];exact I.mod.glob.keeps I.bk) hm (by rw[I.ok.blt];exact h1.keeps I.bk) ((h2 x hn).trans a) h) hd
theorem za8{v:V}{pos:Pos}(a:Gl X x)(hm:X.mg x=some u)(r:RelV v u)(hd: ~~~((x == ("__debug__":Str))=false)):PE X (.Name x pos) (tC v):=
 λt t t H t I h=>z3v I a hm (v,H,I,r,h) hd
theorem zY{v:V}{pos:Pos}(b:Gl X x)(hm:X.mg x=none)(a:bootBuiltins x=some u)(r:RelV v u)(hn: ~~~(x≠"__name__"))(hd: ~~~((x == ("__debug__":Str))=false)):PE X (.Name x pos) (tC v):=
 λt t t H t I h=>z1d I b hm a (v,H,I,r,h) hn hd
variable{a b:Expr}{tb:TE}{pos:Pos}
def tB(t:TE):TT:=λσ H Q=>t σ H λx H1=>∃c,x= .bl c/\Q c H1
theorem zX{t:TE}(h:PE X e t)(he:autoParam (∀whole,isTrue e X.env whole=(do let v<-whole;standAt e.pos;holding [v] (truthy v))) z_b._auto_1):PT X e (tB t):=by
 intro pins s σ H Q I b;refine isTrue_plain (thn (h pins s σ H _ I b) ?_) (he _);rintro v s1 ⟨x,H1,a,r1,q1⟩;obtain⟨d,rfl,q⟩:=q1;cases r1;exact w0t (H1,a,q)
variable{tA fo:TT}{rest:List Expr}
def zh4(t u:TT):TT:=λσ H Q=>t σ H λc H1=>if c=true then u σ H1 Q else Q false H1
def tOr(t u:TT):TT:=λσ H Q=>t σ H λc H1=>if c=true then Q true H1 else u σ H1 Q
def zh8(t:TT):TT:=λσ H Q=>t σ H λc H1=>Q (!c) H1
theorem z1E(ha:PT X a tA):PW X (.BoolOp .And [a] pos) tA:=by
 intro b pins s σ H Q I h;refine isTrue_and (thn (ha pins s σ H Q I h) λc s1 e=>?_);cases c with
 | true=>exact isTrue_and_nil e
 | false=>exact e
theorem z28(ha:PT X a tA):PW X (.BoolOp .Or [a] pos) tA:=by
 intro b pins s σ H Q I h;refine isTrue_or (thn (ha pins s σ H Q I h) λc s1 e=>?_);cases c with
 | false=>exact isTrue_or_nil e
 | true=>exact e
theorem z1L(ha:PT X a tA)(f:PW X (.BoolOp .And (b::rest) pos) fo):PW X (.BoolOp .And (a::b::rest) pos) (zh4 tA fo):=by
 intro e pins s σ H Q I h;refine isTrue_and (thn (ha pins s σ H _ I h) ?_);rintro c s1 ⟨H1,d,q1⟩;cases c with
 | true=>exact f e pins s1 σ H1 Q d q1
 | false=>exact(H1,d,q1)
theorem z37(ha:PT X a tA)(f:PW X (.BoolOp .Or (b::rest) pos) fo):PW X (.BoolOp .Or (a::b::rest) pos) (tOr tA fo):=by
 intro e pins s σ H Q I h;refine isTrue_or (thn (ha pins s σ H _ I h) ?_);rintro c s1 ⟨H1,d,q1⟩;cases c with
 | true=>exact(H1,d,q1)
 | false=>exact f e pins s1 σ H1 Q d q1
theorem jJ(ha:PT X a tA):PT X (.UnaryOp .Not a pos) (zh8 tA):=by
 intro pins s σ H Q I h;exact isTrue_not (ha pins s σ H (λc H1=>Q (!c) H1) I h)
def zfZ(ta tb:TE):TE:=λσ H Q=>ta σ H λx H1=>∃c,x= .bl c/\if c=true then tb σ H1 Q else Q (.bl false) H1
def zg5(ta:TE):TE:=λσ H Q=>ta σ H λx H1=>∃c,x= .bl c/\Q (.bl (!c)) H1
def zfw{op}{t:TE}(h:PE X a t):PE X (.BoolOp op [a] pos) t:=λpins s σ H Q I b=>BoolOp_one (h pins s σ H Q I b)
theorem zfv(ha:PE X a ta)(e:PE X (.BoolOp .And (b::rest) pos) tb):PE X (.BoolOp .And (a::b::rest) pos) (zfZ ta tb):=by
 intro pins s σ H Q I h;refine BoolOp_and (thn (ha pins s σ H _ I h) ?_);rintro v s1 ⟨x,H1,d,r1,q1⟩;obtain⟨c,rfl,q1⟩:=q1;cases r1;refine w0t ?_;cases c with
 | true=>exact e pins s1 σ H1 Q d q1
 | false=>exact(.bl false,H1,d,rfl,q1)
theorem z8y(ha:PE X a ta):PE X (.UnaryOp .Not a pos) (zg5 ta):=by
 intro pins s σ H Q I h;refine UnaryOp_ (thn (ha pins s σ H _ I h) ?_);rintro v s1 ⟨x,H1,b,r1,q1⟩;obtain⟨c,rfl,q1⟩:=q1;cases r1;exact not_of (w0t (.bl (!c),H1,b,rfl,q1))
end
def SqL(K:W.Frag)(H:Hp)(a:Addr)(xs:List V):Prop:=
 Rd H a (.lst xs)\/
  ∃(o:Obj) (its:Array Value) (n:Nat),K.lookup a=some o/\o.cls= .type "list"/\o.dict=none/\o.data= .seq its n/\its.size<=sizeLine/\zM xs its.toList
def SqT(K:W.Frag)(H:Hp)(a:Addr)(xs:List V):Prop:=
 Rd H a (.tup xs)\/
  ∃(o:Obj) (its:Array Value) (n:Nat),K.lookup a=some o/\o.cls= .type "tuple"/\o.data= .seq its n/\its.size<=sizeLine/\zM xs its.toList
noncomputable def zgW:Value->Option V
 | .none=>some .non
 | .bool b=>some (.bl b)
 | .int i _=>some (.int i)
 | .str x _=>some (.str x)
 | .bytes b _=>some (.byt b)
 | .float b _=>some (.flt b)
 | .ref a=>some (.ref a)
 | .type n=>some (.ty n)
 | _=>none
theorem RelV.abs{x:V}(r:RelV x u):zgW u=some x:=by
 cases x with
 | non=>cases r;rfl
 | bl _=>cases r;rfl
 | int _=>obtain⟨t,rfl⟩:=r;rfl
 | str _=>obtain⟨t,rfl⟩:=r;rfl
 | byt _=>obtain⟨t,rfl⟩:=r;rfl
 | flt _=>obtain⟨t,rfl⟩:=r;rfl
 | ref _=>cases r;rfl
 | ty _=>cases r;rfl
variable{y:V}
theorem RelV.inj{x:V}(r:RelV x u)(q:RelV y u):x=y:=Option.some.inj (r.abs.symm.trans q.abs)
theorem zM.inj:∀{xs ys:List V} {us:List Value},zM xs us->zM ys us->xs=ys
 | _,_,_,.nil,.nil=>rfl
 | _,_,_,.cons r t,.cons r' t'=>by rw[r.inj r',zM.inj t t']
section
variable{σ:St}{ys:List V}
def SqL.of{K:W.Frag}(h:H a=some (.lst xs)):SqL K H a xs:= .inl (.inl h)
def SqT.of{K:W.Frag}(h:H a=some (.tup xs)):SqT K H a xs:= .inl (.inl h)
theorem Inv.list(I:Inv X pins σ H s)(h:SqL X.K H a xs):∃its:List Value,zM xs its/\PlainL s.heap a its.toArray/\xs.length<=sizeLine:=by
 rcases h with h|⟨o,its,n,b,hc,hd,hs,hz,r⟩
 .obtain⟨z,its,n,r,e⟩:=h.ok I.hok;exact(its,r,(_,n,e,rfl,rfl,rfl),z)
 .refine(its.toList,r,(o,n,I.kIn a o b,hc,hd,by simpa using hs),?_);have e:=r.length;simp only[w10]at e
  lia
theorem Inv.tuple(I:Inv X pins σ H s)(h:SqT X.K H a xs):∃its:List Value,zM xs its/\IsTup s.heap a its.toArray/\xs.length<=sizeLine:=by
 rcases h with h|⟨o,its,n,b,hc,hs,hz,r⟩
 .obtain⟨z,its,r,p⟩:=h.ok I.hok;exact(its,r,p,z)
 .refine(its.toList,r,(o,I.kIn a o b,hc,n,by simpa using hs),?_);have e:=r.length;simp only[w10]at e
  lia
theorem Inv.list_inj(I:Inv X pins σ H s)(h:SqL X.K H a xs)(h':SqL X.K H a ys):xs=ys:=by
 obtain⟨its,r,⟨o,n,e,_,_,d⟩,_⟩:=I.list h;obtain⟨its',r',⟨o',c,b,_,_,d'⟩,_⟩:=I.list h';rw[e]at b;cases b;rw[d]at d'
 injection d' with d1 _
 have:its=its':=by simpa using Qd Array.toList d1
 subst this;exact r.inj r'
theorem Inv.tuple_inj(I:Inv X pins σ H s)(h:SqT X.K H a xs)(h':SqT X.K H a ys):xs=ys:=by
 obtain⟨its,r,⟨o,e,_,n,d⟩,_⟩:=I.tuple h;obtain⟨its',r',⟨o',b,_,c,d'⟩,_⟩:=I.tuple h';rw[e]at b;cases b;rw[d]at d'
 injection d' with d1 _
 have:its=its':=by simpa using Qd Array.toList d1
 subst this;exact r.inj r'
end
noncomputable abbrev Cx.wish(X:Cx)(E:Value->Shared->Prop):Cx:={X with xe:=E}
noncomputable abbrev Cx.nox(X:Cx):Cx:=X.wish λv v=>False
theorem Cx.Ok.wish(ok:X.Ok)(E:Value->Shared->Prop):(X.wish E).Ok:=
 (ok.mod,ok.kind,ok.glob,ok.blt,ok.above,ok.inj,ok.has,ok.cab,ok.hd,ok.frames,ok.stk,ok.exf,ok.bs,ok.bsz,ok.noex,ok.exfs,ok.funs,ok.frf)
def Cx.Ok.unwish(ok:(X.wish E).Ok):X.Ok:=
 (ok.mod,ok.kind,ok.glob,ok.blt,ok.above,ok.inj,ok.has,ok.cab,ok.hd,ok.frames,ok.stk,ok.exf,ok.bs,ok.bsz,ok.noex,ok.exfs,ok.funs,ok.frf)
variable{D:Ends}
section
variable{σ:St}
theorem Inv.wish(I:Inv X pins σ H s)(E:Value->Shared->Prop):Inv (X.wish E) pins σ H s:=(I.ok.wish E,I.os,I.bare,I.base,I.loc,I.cell,I.free,I.freeC,I.pin,I.hok,I.len)
def Inv.unwish(I:Inv (X.wish E) pins σ H s):Inv X pins σ H s:=(I.ok.unwish,I.os,I.bare,I.base,I.loc,I.cell,I.free,I.freeC,I.pin,I.hok,I.len)
theorem SP.unwish{f:Flow}(h:SP (X.wish E) pins D f s'):SP X pins D f s':=by
 cases f with
 | next=>obtain⟨σ',H',I,q⟩:=h;exact(σ',H',I.unwish,q)
 | brk=>obtain⟨σ',H',I,q⟩:=h;exact(σ',H',I.unwish,q)
 | cont=>obtain⟨σ',H',I,q⟩:=h;exact(σ',H',I.unwish,q)
 | ret u=>obtain⟨v,σ',H',I,r,q⟩:=h;exact(v,σ',H',I.unwish,r,q)
theorem PSs.nox{st:List Stmt}{t:TS}(h:PSs X.nox st t):PSs X st t:=λpins s σ H D I a=>
 Qa (h pins s σ H D (I.wish _) a) (λv v q=>q.unwish) λv v z=>False.elim z
end
variable{te:TE}{c:Expr}{tc:TT}
section
variable{st:Stmt}{rest:List Stmt}{t u:TS}{pos:Pos}
def z3a:TS:=λD σ H=>D.nx σ H
def z1R(t u:TS):TS:=λD σ H=>t {D with nx:=u D} σ H
def zt:PSs X [] z3a:=λv v σ H v I h=>wpAny_execs_nil (σ,H,I,h)
theorem zc(h1:PS X st t)(h2:PSs X rest u):PSs X (st::rest) (z1R t u):=by
 intro pins s σ H D I h;refine wpAny_execs_cons (thn (h1 pins s σ H {D with nx:=u D} I h) λf s1 q=>?_);cases f with
 | next=>
  obtain⟨σ',H',a,q⟩:=q;exact h2 pins s1 σ' H' D a q
 | ret v=>exact q
 | brk=>exact q
 | cont=>exact q
theorem zf(h1:PS X st t):PSs X [st] t:=by
 intro pins s σ H D I h;refine wpAny_execs_cons (thn (h1 pins s σ H D I h) λf s1 q=>?_);cases f with
 | next=>exact wpAny_execs_nil q
 | ret v=>exact q
 | brk=>exact q
 | cont=>exact q
theorem Inv.quiet{σ:St}(I:Inv X pins σ H s):interactive X.env=false:=by simp[interactive,I.ok.kind]
def zgr(te:TE):TS:=λD σ H=>te σ H λv H1=>D.nx σ H1
theorem j7(he:PE X e te)(hs:(swapsWith e none pos.line X.env=pure false)⁻¹):PS X (.Expr e pos) (zgr te):=by
 intro pins s σ H D I h;exact wpAny_Expr_any (thn (he pins s σ H _ I h) λv s1 ⟨x,H1,a,r1,q1⟩=>(σ,H1,a,q1)) I.quiet hs
def zgH(te:TE):TS:=λD σ H=>te σ H D.rt
theorem zp(he:PE X e te):PS X (.Return (some e) pos) (zgH te):=by
 intro pins s σ H D I h;exact wpAny_Return_some (thn (he pins s σ H _ I h) λv s1 ⟨x,H1,a,r1,q1⟩=>(x,σ,H1,a,r1,q1))
def z6M(c:TT)(t u:TS):TS:=λD σ H=>c σ H λb H1=>if b=true then t D σ H1 else u D σ H1
theorem zB{a b:List Stmt}(hc:PT X c tc)(ha:PSs X a t)(f:PSs X b u):PS X (.If c a b pos) (z6M tc t u):=by
 intro pins s σ H D I h;refine wpAny_If (thn (hc pins s σ H _ I h) ?_);rintro d s1 ⟨H1,e,q1⟩;cases d with
 | true=>exact ha pins s1 σ H1 D e q1
 | false=>exact f pins s1 σ H1 D e q1
def zeW:TS:=λv v v=>False
def z3g:PS X st zeW:=λv v v v v v h=>h.elim
end
abbrev TG:=V->St->Hp->(St->Hp->Prop)->Prop
abbrev TGs:=List V->St->Hp->(St->Hp->Prop)->Prop
def PG(X:Cx)(target:Expr)(t:TG):Prop:=
 ∀(pins:List (Addr×Obj)) (s:Shared) (σ:St) (H:Hp) (v:V) (u:Value) (Q:St->Hp->Prop),Inv X pins σ H s->RelV v u->t v σ H Q->
  wpAny (model X.prog X.w) X.A (assign target X.env u) (λy s'=>∃σ' H',Inv X pins σ' H' s'/\Q σ' H') X.xe s
def PGs(X:Cx)(a:List Expr)(t:TGs):Prop:=
 ∀(pins:List (Addr×Obj)) (s:Shared) (σ:St) (H:Hp) (vs:List V) (us:List Value) (Q:St->Hp->Prop),Inv X pins σ H s->zM vs us->t vs σ H Q->
  wpAny (model X.prog X.w) X.A (assignInOrder ((assignEach a X.env).map (·.2)) us) (λv s'=>∃σ' H',Inv X pins σ' H' s'/\Q σ' H') X.xe s
abbrev zeQ:=V->V->V->Hp->(Hp->Prop)->Prop
def zfS(X:Cx)(t:zeQ):Prop:=
 ∀(pins:List (Addr×Obj)) (s:Shared) (σ:St) (H:Hp) (o i v:V) (b a u:Value) (Q:Hp->Prop),Inv X pins σ H s->RelV o b->RelV i a->RelV v u->t o i v H Q->
  wpAny (model X.prog X.w) X.A (setItem b a u) (λy s'=>∃H',Inv X pins σ H' s'/\Q H') X.xe s
variable{es:List Expr}{n:Nat}{tg:Expr}
section
variable{pos:Pos}
def z24(i:Nat):TG:=λv σ H Q=>Q (σ.set i (some v)) H
theorem z0D(d:X.N.Nodup)(hi:X.N[i]? =some x)(a:Loc X.env.scope x)(c:autoParam (X.fn x=true\/X.env.scope.names.lookup x=some .local) z_a._auto_1):PG X (.Name x pos) (z24 i):=by
 intro pins s σ H v u Q I r h;exact wpAny_assign_Name (z81 I d hi a r (λs' b=>(_,H,b,h)) c)
def zf3:TGs:=λvs σ H Q=>vs= []/\Q σ H
def z7s(t:TG)(u:TGs):TGs:=λvs σ H Q=>∃v r,vs=v::r/\t v σ H λσ' H'=>u r σ' H' Q
theorem z6k:PGs X [] zf3:=by
 intro pins s σ H vs us Q I r h;obtain⟨e,h⟩:=h;subst e;cases r;exact assignInOrder_nil (σ,H,I,h)
theorem z1p{t:TG}{u:TGs}(h1:PG X e t)(h2:PGs X es u)
  (hs:((assignEach (e::es) X.env).map (·.2)=assign e X.env::(assignEach es X.env).map (·.2))⁻¹):PGs X (e::es) (z7s t u):=by
 intro pins s σ H vs us Q I r h;obtain⟨v,d,c,h⟩:=h;subst c;cases r with
 | cons r b=>
  rw[hs];refine assignInOrder_cons (thn (h1 pins s σ H _ _ _ I r h) ?_);rintro _ s1 ⟨σ1,H1,a,q1⟩;exact h2 pins s1 σ1 H1 _ _ Q a b q1
def zfB(K:W.Frag)(n:Nat)(t:TGs):TG:=λv σ H Q=>∃a xs,v= .ref a/\SqT K H a xs/\xs.length=n/\t xs σ H Q
theorem z8h{k:Nat}{t:TGs}(hc:X.calm=true)(h:PGs X es t)
  (hn:((assignEach es X.env).length=n)⁻¹) (i:((assignEach es X.env).findIdx? (·.1)=none)⁻¹):PG X (.Tuple es k pos) (zfB X.K n t):=by
 intro pins s σ H v u Q I r c;obtain⟨a,xs,l,hq,hl,c⟩:=c;subst l;cases r;obtain⟨its,d,ht,hz⟩:=I.tuple hq;refine assign_Tuple_tuple (I.ok.hd hc) ht (by simp[hn,<-hl,d.length]) i λh' f=>?_
 have j:Inv X pins σ H {s with heap:=h'}:=I.kept (t':=s.toks) λb o e=>f b o (qc (wQ e)) e
 exact h pins _ σ H xs _ Q j (by simpa using d) c
def zgR(to a:TE)(t:zeQ):TG:=λv σ H Q=>to σ H λo H1=>a σ H1 λi H2=>t o i v H2 λb=>Q σ b
theorem z8G{o i:Expr}{to c:TE}{t:zeQ}(f:PE X o to)(hi:PE X i c)(hs:zfS X t)
  (ha:autoParam (∀v,assign (.Subscript o i pos) X.env v=(do
   let a<-holding [v] (eval o X.env)
   let b<-holding [v,a] (eval i X.env)
   standAt pos
   holding [v,a,b] (setItem a b v)
   release [v,a,b] [])) z_b._auto_1):PG X (.Subscript o i pos) (zgR to c t):=by
 intro pins s σ H v u Q I r h;rw[ha];refine wD (QO (thn (f pins s σ H _ I h) ?_));rintro a s1 ⟨x,H1,j,r1,q1⟩;refine wD (QO (thn (hi pins s1 σ H1 _ j q1) ?_));rintro b s2 ⟨y,H2,n,r2,p⟩;refine wD (wpAny_standAt (wD (QO (thn (hs pins s2 σ H2 x y v a b u _ n r1 r2 r p) ?_))));rintro _ q ⟨d,e,l⟩;exact wpAny_release (σ,d,e,l)
def zeR(te:TE)(g:TG):TS:=λD σ H=>te σ H λx H1=>g x σ H1 D.nx
theorem z6x{g:TG}(he:PE X e te)(b:PG X tg g)(hs:(swapsWithSole [tg] e pos.line X.env=pure false)⁻¹)(c:(swappedStores [tg] e X.env=pure none)⁻¹)
  (h1:((assignEach [tg] X.env).map (·.2)= [assign tg X.env])⁻¹):PS X (.Assign [tg] e pos) (zeR te g):=by
 intro pins s σ H D I h;refine wpAny_Assign_stores (thn (he pins s σ H _ I h) ?_) hs c;rintro v s1 ⟨x,H1,a,r1,q1⟩;rw[h1];exact thn (b pins s1 σ H1 x v _ a r1 q1) λu s2 q=>q
theorem yN{pos':Pos}(b:X.N.Nodup)(hi:X.N[i]? =some x)(a:Loc X.env.scope x)(he:PE X e te)(hs:(swapsWith e (some (.Name x pos')) pos.line X.env=pure false)⁻¹)(d:autoParam (X.fn x=true\/X.env.scope.names.lookup x=some .local) z_a._auto_1):
  PS X (.Assign [.Name x pos'] e pos) (zeR te (z24 i)):=by
 intro pins s σ H D I h;refine wpAny_Assign_Name (thn (he pins s σ H _ I h) ?_) hs;rintro v s1 ⟨y,H1,c,r1,q1⟩;exact z81 c b hi a r1 (λs2 f=>(_,H1,f,q1)) d
end
variable{tb:TS}{body:List Stmt}
section
variable{pos:Pos}
def z1q(c:TT)(tb:TS):TS:=λD σ H=>∃W:Nat->St->Hp->Prop,(∃m,W m σ H)/\∀m σ H,W m σ H->
 c σ H λb H1=>if b=true then∃N:St->Hp->Prop,(∀σ' H',N σ' H'->∃a,a<m/\W a σ' H')/\tb {D with nx:=N,ct:=N,bk:=D.nx} σ H1 else D.nx σ H1
theorem zcw(hp:PassesOwn (model X.prog X.w) X.A X.env X.xe)(hc:PT X c tc)(u:PSs X body tb):PS X (.While c body [] pos) (z1q tc tb):=by
 intro pins s σ H D I h;obtain⟨W,⟨t,w0⟩,turn⟩:=h;refine wpAny_While (codeAny_whileLoop (λn s'=>∃σ' H',Inv X pins σ' H' s'/\W n σ' H') ?_ t (σ,H,I,w0));rintro n s1 ⟨σ1,H1,r,w1⟩;refine w0Q hp (thn (hc pins s1 σ1 H1 _ r (turn n σ1 H1 w1)) ?_);rintro b s2 ⟨H2,q,e⟩;cases b with
 | true=>
  obtain⟨N,p,e⟩:=e;rw[qd rfl];refine w0Q hp (thn (u pins s2 σ1 H2 _ q e) λf x d=>?_);cases f with
  | next=>
   obtain⟨σ3,a,j,l⟩:=d;obtain⟨i,hm,o⟩:=p σ3 a l;exact(i,hm,σ3,a,j,o)
  | cont=>
   obtain⟨σ3,a,j,l⟩:=d;obtain⟨i,hm,o⟩:=p σ3 a l;exact(i,hm,σ3,a,j,o)
  | brk=>exact d
  | ret v=>exact d
 | false=>
  rw[wW wU];exact wpAny_execs_nil (σ1,H2,q,e)
end
structure It where
 go:Nat->Hp->Prop
 yld:Nat->Hp->V->Hp->Prop
 stop:Nat->Hp->Prop
def z4i(X:Cx)(pins:List (Addr×Obj))(H:Hp)(b:Addr):Prop:=
 H b=none/\b≠X.env.locals/\b∉X.fs/\(b∈X.ex\/X.s₀.heap.objs.size<=b)/\(∀x c,X.env.cells.lookup x=some c->c≠b)/\∀p∈X.pn++pins,p.1≠b
variable{σ:St}
theorem Inv.fpOk(I:Inv X pins σ H s)(a:s.heap.objs.size<=b)(hn:H' b=none):z4i X pins H' b:=by
 refine(hn,QL (wT I.lt a),I.nofs a,.inr (wY I.sz a),λx c e z=>?_,λp hp z=>?_)
 .obtain⟨v,q⟩:=I.cell x c e;exact absurd (wT q.lt (by rw[z];exact a)) (QX _)
 .exact absurd (wT (wQ (I.pin p hp).1) (by rw[z];exact a)) (QX _)
structure Turn(P:Program)(w:World)(K:W.Frag)(tg:Expr)(J:It)(fp:List Addr)(it:Addr)(tn:Nat->Heap->Prop):Prop where
 mem:it∈fp
 obj:∀i h,tn i h->∀b∈fp,∃o,h.get? b=some o/\∀v,o.data≠ .cell v
 keep:∀i h h',tn i h->(∀b∈fp,∀o,h.get? b=some o->h'.get? b=some o)->tn i h'
 item:∀(X:Cx),X.prog=P->X.w=w->X.K=K->X.calm=true->∀(i:Nat) (pins:List (Addr×Obj)) (s:Shared) (σ:St) (H:Hp) (E:Value->Shared->Prop),Inv X pins σ H s->(∀b∈fp,z4i X pins H b)->tn i s.heap->J.go i H->
  wpAny (model P w) X.A (pyNext (.ref it)) (λr s1=>∃u,r=some u/\
   wpAny (model P w) X.A (letOwnedTupleGo tg (.ref it) u) (λ_ s2=>∃x H',Inv X pins σ H' s2/\RelV x u/\J.yld i H x H'/\tn (i+1) s2.heap/\∀b∈fp,H' b=none) E s1) E s
 done:∀(X:Cx),X.prog=P->X.w=w->X.K=K->X.calm=true->∀(i:Nat) (pins:List (Addr×Obj)) (s:Shared) (σ:St) (H:Hp) (E:Value->Shared->Prop),Inv X pins σ H s->(∀b∈fp,z4i X pins H b)->tn i s.heap->J.stop i H->
  wpAny (model P w) X.A (pyNext (.ref it)) (λr s1=>r=none/\Inv X pins σ H s1) E s
 self:∀(A:Around) (i:Nat) (s:Shared) (Q:Value->Shared->Prop) (E:Value->Shared->Prop),tn i s.heap->Q (.ref it) s->wpAny (model P w) A (pyIter (.ref it)) Q E s
abbrev TI:=St->Hp->(It->Hp->Prop)->Prop
def PIE(X:Cx)(pins:List (Addr×Obj))(σ:St)(tg:Expr)(R:It->Hp->Prop)(a:Value)(s2:Shared):Prop:=
 ∃(it:Addr) (fp:List Addr) (tn:Nat->Heap->Prop) (J:It) (H':Hp),a= .ref it/\Inv X pins σ H' s2/\Turn X.prog X.w X.K tg J fp it tn/\tn 0 s2.heap/\(∀b∈fp,z4i X pins H' b)/\R J H'
def PI(X:Cx)(tg iter:Expr)(wi:TI):Prop:=
 ∀(pins:List (Addr×Obj)) (s:Shared) (σ:St) (H:Hp) (R:It->Hp->Prop),Inv X pins σ H s->wi σ H R->
  wpAny (model X.prog X.w) X.A (eval iter X.env) (λv s1=>wpAny (model X.prog X.w) X.A (pyIter v) (PIE X pins σ tg R) X.xe s1) X.xe s
theorem z85{o:Obj}{n:String}{vs:Array Value}{Q:Unit->Shared->Prop}(b:s.heap.get? it=some o)(hc:o.cls= .type n)(hd:o.data= .fields vs)
  (hn: ["enumerate","zip","dict_itemiterator","dict_reverseitemiterator","odict_iterator","itertools.zip_longest","itertools.pairwise"].contains n=false) (a:Q () s):wpAny M A (letOwnedTupleGo tg (.ref it) u) Q E s:=by
 unfold letOwnedTupleGo;cases tg<;>first
  | exact q9 a
  | (cases u<;>first
    | exact q9 a
    | (refine wD (wpAny_load b ?_)
       rw[hc,hd]
       show wpAny M A (if(["enumerate","zip","dict_itemiterator","dict_reverseitemiterator","odict_iterator","itertools.zip_longest","itertools.pairwise"].contains n&&vs[0]? == some (rawInt _))=true then _ else _) Q E s
       rw[wW (by intro h;rw[hn,w1p]at h;cases h)];exact q9 a))
noncomputable def Itl(K:W.Frag)(a:Addr):It:=
 (λi H=>∃xs x,SqL K H a xs/\xs[i]? =some x,λi H x H'=>H'=H/\∀xs,SqL K H a xs->xs[i]? =some x,λi H=>∃xs,SqL K H a xs/\xs.length<=i)
noncomputable def Itt(K:W.Frag)(a:Addr):It:=
 (λi H=>∃xs x,SqT K H a xs/\xs[i]? =some x,λi H x H'=>H'=H/\∀xs,SqT K H a xs->xs[i]? =some x,λi H=>∃xs,SqT K H a xs/\xs.length<=i)
noncomputable def Itr(lo:Int)(n:Nat):It:=(λi v=>i<n,λi H x H'=>H'=H/\x= .int (lo+i),λi v=>n<=i)
variable{K:W.Frag}
theorem zaD(a it:Addr):Turn P w K tg (Itl K a) [it] it (λi h=>h.IsListIter it a i) where
 mem:=by simp
 obj:=λi h st b f=>by
  have e:b=it:=by simpa using f
  subst e;obtain⟨o,e,c,d⟩:=st;exact(o,e,λv z=>by rw[d]at z;cases z)
 keep:=λi h h' st k=>st.at λo e=>k it (by simp) o e
 item:=by
  intro X A C n hc i pins s σ H E I j st B;subst A C n;obtain⟨xs,x,hq,q⟩:=B;obtain⟨its,r,p,hz⟩:=I.list hq;obtain⟨u,L,M⟩:=r.get q;obtain⟨f0,f1,f2,y,l,t⟩:=j it (by simp);refine wpAny_pyNext_list_item st p.isList (x:=u) (by simpa using L) λh' D N=>?_
  have J:Inv X pins σ H {s with heap:=h'}:=I.turned (t':=s.toks) (λb o f e=>(N.2 b f).trans e) f0 f1 y l t;obtain⟨o,e,c,d⟩:=id D;exact(u,rfl,z85 (s:={s with heap:=h'}) e c d (by decide) (x,H,J,M,(rfl,λys F=>by rw[I.list_inj F hq];exact q),D,λb f=>(j b f).1))
 done:=by
  intro X A C n hc i pins s σ H E I j st B;subst A C n;obtain⟨xs,hq,q⟩:=B;obtain⟨its,r,p,hz⟩:=I.list hq;obtain⟨f0,f1,f2,y,l,t⟩:=j it (by simp);have hl:=r.length;exact wpAny_pyNext_list_end (I.ok.hd hc) st p.isList (by simp;lia) λh' G=>(rfl,I.turned (t':=s.toks) (λb o f e=>G b o f e) f0 f1 y l t)
 self:=λv v v v v st h=>wpAny_pyIter_listiter st h
theorem z8r(a it:Addr):Turn P w K tg (Itt K a) [it] it (λi h=>h.IsTupleIter it a i) where
 mem:=by simp
 obj:=λi h st b f=>by
  have e:b=it:=by simpa using f
  subst e;obtain⟨o,e,c,d⟩:=st;exact(o,e,λv z=>by rw[d]at z;cases z)
 keep:=λi h h' st k=>st.at λo e=>k it (by simp) o e
 item:=by
  intro X A C n hc i pins s σ H E I j st B;subst A C n;obtain⟨xs,x,hq,q⟩:=B;obtain⟨its,r,p,hz⟩:=I.tuple hq;obtain⟨u,L,M⟩:=r.get q;obtain⟨f0,f1,f2,y,l,t⟩:=j it (by simp);refine wpAny_pyNext_tuple_item st (show s.heap.IsTuple a its.toArray from p) (x:=u) (by simpa using L) λh' D N=>?_
  have J:Inv X pins σ H {s with heap:=h'}:=I.turned (t':=s.toks) (λb o f e=>(N.2 b f).trans e) f0 f1 y l t;obtain⟨o,e,c,d⟩:=id D;exact(u,rfl,z85 (s:={s with heap:=h'}) e c d (by decide) (x,H,J,M,(rfl,λys F=>by rw[I.tuple_inj F hq];exact q),D,λb f=>(j b f).1))
 done:=by
  intro X A C n hc i pins s σ H E I j st B;subst A C n;obtain⟨xs,hq,q⟩:=B;obtain⟨its,r,p,hz⟩:=I.tuple hq;obtain⟨f0,f1,f2,y,l,t⟩:=j it (by simp);have hl:=r.length;exact wpAny_pyNext_tuple_end (I.ok.hd hc) st (show s.heap.IsTuple a its.toArray from p) (by simp;lia) λh' G=>(rfl,I.turned (t':=s.toks) (λb o f e=>G b o f e) f0 f1 y l t)
 self:=λv v v v v st h=>wpAny_pyIter_tupleiter st h
theorem z8J(it:Addr)(lo:Int)(n:Nat):Turn P w K tg (Itr lo n) [it] it (λi h=>IsRangeIter h it (lo+(i:Nat)*1) ((n:Int)-(i:Nat)) 1) where
 mem:=by simp
 obj:=λi h st b a=>by
  have e:b=it:=by simpa using a
  subst e;exact(_,st,λv z=>by
   have z':Data.fields _=Data.cell v:=z;cases z')
 keep:=λi h h' st k=>k it (by simp) _ st
 item:=by
  intro X p r f hc i pins s σ H E I c st q;subst p r f;obtain⟨f0,f1,f2,l,d,j⟩:=c it (by simp);have W:=Walks.range (prog:=X.prog) (w:=X.w) (I.ok.hd hc) it lo 1 n;refine W.item i s _ _ q st λv h' tk A u kk=>?_
  obtain⟨t,rfl⟩:=A;have y:Inv X pins σ H {s with heap:=h',toks:=tk}:=I.turned (λb o a e=>kk b o (by simpa using a) e) f0 f1 l d j;refine(_,rfl,z85 (s:={s with heap:=h',toks:=tk}) (n:="range_iterator") u rfl rfl (by decide) (.int (lo+i),H,y,(t,?_),(rfl,rfl),u,λb a=>(c b a).1));rw[Int.mul_one]
 done:=by
  intro X p r f hc i pins s σ H E I c st q;subst p r f;obtain⟨f0,f1,f2,l,d,j⟩:=c it (by simp);exact wpAny_pyNext_range_end (I.ok.hd hc) st (by have:n<=i:=q;lia) λh' x=>(rfl,I.turned (t':=s.toks) (λb o a e=>x b o a e) f0 f1 l d j)
 self:=λm m m m m st h=>wpAny_pyIter_rangeiter st h
variable{l:Expr}{tl:TE}{p:Pos}{fp:List Addr}
def zeD(K:W.Frag)(tl:TE):TI:=λσ H R=>tl σ H λx H1=>∃a,x= .ref a/\(∃xs,SqL K H1 a xs)/\R (Itl K a) H1
def zgX(K:W.Frag)(tl:TE):TI:=λσ H R=>tl σ H λx H1=>∃a,x= .ref a/\(∃xs,SqT K H1 a xs)/\R (Itt K a) H1
theorem zT(hl:PE X l tl):PI X tg l (zeD X.K tl):=by
 intro pins s σ H R I h;refine thn (hl pins s σ H _ I h) ?_;rintro v s1 ⟨x,H1,c,r1,q1⟩;obtain⟨a,e,⟨xs,hq⟩,q⟩:=q1;subst e;cases r1;obtain⟨its,f,p,hz⟩:=c.list hq;refine wpAny_pyIter_list p.isList ?_;refine(s1.heap.objs.size,[s1.heap.objs.size],_,_,H1,rfl,c.kept (t':=s1.toks) λb o e=>wu _ e,zaD a _,(_,qh _ rfl,rfl,rfl),λb d=>?_,q);have e:b=s1.heap.objs.size:=by simpa using d
 subst e;exact c.fpOk (wA _) (c.hok.fresh (wA _))
theorem z3I(hl:PE X l tl):PI X tg l (zgX X.K tl):=by
 intro pins s σ H R I h;refine thn (hl pins s σ H _ I h) ?_;rintro v s1 ⟨x,H1,c,r1,q1⟩;obtain⟨a,e,⟨xs,hq⟩,q⟩:=q1;subst e;cases r1;obtain⟨its,f,p,hz⟩:=c.tuple hq;refine wpAny_pyIter_tuple (show s1.heap.IsTuple a its.toArray from p) ?_;refine(s1.heap.objs.size,[s1.heap.objs.size],_,_,H1,rfl,c.kept (t':=s1.toks) λb o e=>wu _ e,z8r a _,(_,qh _ rfl,rfl,rfl),λb d=>?_,q);have e:b=s1.heap.objs.size:=by simpa using d
 subst e;exact c.fpOk (wA _) (c.hok.fresh (wA _))
theorem z7j{R:It->Hp->Prop}{lo hi:Int}{t u v:Tok}{tk:Nat}(I:Inv X pins σ H s)(h1: -(2 ^ 62)<=lo)(h2:lo<2 ^ 62)(c: -(2 ^ 62)<=hi)(h:hi<2 ^ 62)
  (q:R (Itr lo (hi-lo).toNat) H):wpAny (model X.prog X.w) X.A (pyIter (.ref s.heap.objs.size)) (PIE X pins σ tg R) E {s with heap:=s.heap.push {cls:= .type "range",data:= .fields #[.int lo t,.int hi u,.int 1 v]},toks:=tk}:=by
 refine wpAny_pyIter_range (IsRange.new ..) (small_one h1 h2 c h) ?_;have a:Inv X pins σ H {s with heap:=s.heap.push {cls:= .type "range",data:= .fields #[.int lo t,.int hi u,.int 1 v]},toks:=tk}:=I.kept λb o e=>wu _ e
 refine((s.heap.push {cls:= .type "range",data:= .fields #[.int lo t,.int hi u,.int 1 v]}).objs.size,[(s.heap.push {cls:= .type "range",data:= .fields #[.int lo t,.int hi u,.int 1 v]}).objs.size],_,_,H,rfl,
  a.kept (t':=tk) λb o e=>wu _ e,z8J _ lo (hi-lo).toNat,?_,λb f=>?_,q)
 .have i:lo+((0:Nat):Int)*1=lo:=by simp
  have d:(((hi-lo).toNat:Nat):Int)-((0:Nat):Int)=Builtin.Range.rangeSize lo hi 1:=by rw[rangeSize_one];split<;>lia
  show IsRangeIter _ _ (lo+((0:Nat):Int)*1) ((((hi-lo).toNat:Nat):Int)-((0:Nat):Int)) 1
  rw[i,d];exact qh _ rfl
 .have e:b=(s.heap.push {cls:= .type "range",data:= .fields #[.int lo t,.int hi u,.int 1 v]}).objs.size:=by simpa using f
  subst e;exact a.fpOk (wA _) (a.hok.fresh (wA _))
def zfV(ta:TA):TI:=λσ H R=>ta σ H λvs H1=>∃j:Int,vs= [.int j]/\-(2 ^ 62)<=j/\j<2 ^ 62/\R (Itr 0 j.toNat) H1
def zg1(ta:TA):TI:=λσ H R=>ta σ H λvs H1=>∃i j:Int,vs= [.int i,.int j]/\(-(2 ^ 62)<=i/\i<2 ^ 62/\-(2 ^ 62)<=j/\j<2 ^ 62)/\R (Itr i (j-i).toNat) H1
theorem jU{a:Expr}{ta:TA}{pos:Pos}(c:Gl X "range")(hm:X.mg "range"=none)(ha:PA X [a] ta)(hs:(starEach [a] X.env= [(false,eval a X.env)])⁻¹):PI X tg (.Call (.Name "range" p) [a] [] pos) (zfV ta):=by
 intro pins s σ H R I h;refine Call_ (z1d I c hm boot_range (Qk (thn (ha pos pins s σ H _ I h) ?_) hs rfl));rintro us s1 ⟨vs,H1,b,r1,q1⟩;obtain⟨j,e,q1,f,q⟩:=q1;subst e;cases r1 with
 | cons r d=>
  cases d;obtain⟨t,rfl⟩:=r;exact call_range_1 (z7j b (by lia) (by lia) q1 f (by simpa using q))
theorem zao{a b:Expr}{ta:TA}{pos:Pos}(n:Gl X "range")(hm:X.mg "range"=none)(ha:PA X [a,b] ta)(hs:(starEach [a,b] X.env= [(false,eval a X.env),(false,eval b X.env)])⁻¹)(d:(starEach [b] X.env= [(false,eval b X.env)])⁻¹):
  PI X tg (.Call (.Name "range" p) [a,b] [] pos) (zg1 ta):=by
 intro pins s σ H R I h;refine Call_ (z1d I n hm boot_range (Qk (thn (ha pos pins s σ H _ I h) ?_) (by rw[hs,d]) (by rw[d];rfl)));rintro us s1 ⟨vs,H1,f,r1,q1⟩;obtain⟨i,j,e,⟨q1,u,l,o⟩,q⟩:=q1;subst e;cases r1 with
 | cons r c=>
  cases c with
  | cons r' c=>
   cases c;obtain⟨t,rfl⟩:=r;obtain⟨t',rfl⟩:=r';exact call_range_2 (z7j f q1 u l o q)
def zaE(wi:TI)(g:TG)(tb:TS):TS:=λD σ H=>wi σ H λJ H1=>∃W:Nat->Nat->St->Hp->Prop,(∃m,W 0 m σ H1)/\∀i m σ H,W i m σ H->
 (J.stop i H/\D.nx σ H)\/(J.go i H/\∃N:St->Hp->Prop,(∀σ' H',N σ' H'->∃a,a<m/\W (i+1) a σ' H')/\∀x H',J.yld i H x H'->g x σ H' λσ2 H2=>tb {D with nx:=N,ct:=N,bk:=D.nx} σ2 H2)
noncomputable def z5h(fp:List Addr)(h:Heap):List (Addr×Obj):=fp.filterMap λb=>(h.get? b).map λo=>(b,o)
theorem z1s{o:Obj}(a:b∈fp)(e:h.get? b=some o):(b,o)∈z5h fp h:=List.mem_filterMap.mpr (b,a,by rw[e];rfl)
theorem zaF{p:Addr×Obj}(hp:p∈z5h fp h):p.1∈fp/\h.get? p.1=some p.2:=by
 obtain⟨b,a,e⟩:=List.mem_filterMap.mp hp;cases q:h.get? b with
 | none=>rw[q]at e;cases e
 | some o=>
  rw[q]at e;have c:(b,o)=p:=Option.some.inj e;subst c;exact(a,q)
theorem Inv.pinned(I:Inv X pins σ H s)(f:∀b∈fp,z4i X pins H b)(h:∀b∈fp,∃o,s.heap.get? b=some o/\∀v,o.data≠ .cell v):Inv X (pins++z5h fp s.heap) σ H s:=
 I.pins_of λp hp=>(wE.mp hp).elim (λz=>I.pin p (wC _ z)) λz=>by
  obtain⟨a,e⟩:=zaF z;obtain⟨f0,f1,f2,_⟩:=f p.1 a;obtain⟨o,c,d⟩:=h p.1 a;rw[e]at c;cases c;exact(e,f0,f1,f2,d)
def Inv.unpinned{pl:List (Addr×Obj)}(I:Inv X (pins++pl) σ H s):Inv X pins σ H s:=I.pins_of λp hp=>I.pin p (wC _ (q5 _ hp))
theorem zfc{iter:Expr}{wi:TI}{g:TG}{pos:Pos}(hp:PassesOwn (model X.prog X.w) X.A X.env X.xe)(hc:X.calm=true)(hi:PI X tg iter wi)(O:PG X tg g)(c:PSs X body tb)
  (hs:autoParam (∀x,foldedSetIterable iter X.env x=pure x) z_b._auto_1):PS X (.For tg iter body [] pos) (zaE wi g tb):=by
 intro pins s σ H D I h;refine wpAny_For (thn (hi pins s σ H _ I h) λv s1 h1=>thn h1 λnA s2 h2=>?_) hs;obtain⟨it,fp,tn,J,H2,e,I2,T,b9,f2,W,⟨m0,w0⟩,turn⟩:=h2;subst e;have B:∀{H':Hp},(∀b∈fp,H' b=none)->∀b∈fp,z4i X pins H' b:=λhn b c=>(hn b c,(f2 b c).2)
 refine codeAny_forLoop_any (λn s'=>∃i σ' H',Inv X pins σ' H' s'/\tn i s'.heap/\(∀b∈fp,H' b=none)/\W i n σ' H') ?_ m0 (0,σ,H2,I2,b9,λb c=>(f2 b c).1,w0);rintro n E ⟨i,σ3,q,K,C,F,S⟩;rcases turn i n σ3 q S with⟨stop,qn⟩|⟨go,N,hN,step⟩
 .refine w0Q hp (thn (T.done X rfl rfl rfl hc i pins E σ3 q X.xe K (B F) C stop) ?_);rintro r s4 ⟨hr,L⟩;subst hr;exact wpAny_execs_nil (σ3,q,L,qn)
 .refine w0Q hp (thn (T.item X rfl rfl rfl hc i pins E σ3 q X.xe K (B F) C go) ?_);rintro r s4 ⟨u,hr,Z⟩;subst hr;refine w0Q hp (thn Z ?_);rintro _ G ⟨x,H5,I5,P,R,t,oV⟩;have y:=I5.pinned (B oV) (T.obj _ _ t);refine w0Q hp (thn (O _ G σ3 H5 x u _ y P (step x H5 R)) ?_);rintro _ s6 ⟨σ6,H6,M,Q⟩;refine w0Q hp (thn (c _ s6 σ6 H6 _ M Q) λf z l=>?_);have again:∀{σ7:St} {j:Hp},Inv X (pins++z5h fp G.heap) σ7 j z->N σ7 j->∃m,m<n/\∃i σ' H',Inv X pins σ' H' z/\tn i z.heap/\(∀b∈fp,H' b=none)/\W i m σ' H':=λ{σ7 j} a p=>by
   obtain⟨U,hm,Y⟩:=hN σ7 j p;refine(U,hm,i+1,σ7,j,a.unpinned,T.keep _ _ _ t λb c o e=>(a.pin (b,o) (wC _ (wC _ (z1s c e)))).1,λb c=>?_,Y);obtain⟨o,e,d⟩:=T.obj _ _ t b c;exact(a.pin (b,o) (wC _ (wC _ (z1s c e)))).2.1
  cases f with
  | next=>obtain⟨σ7,j,a,p⟩:=l;exact again a p
  | cont=>obtain⟨σ7,j,a,p⟩:=l;exact again a p
  | brk=>obtain⟨σ7,j,a,l⟩:=l;exact(σ7,j,a.unpinned,l)
  | ret v=>obtain⟨x7,σ7,j,a,r7,l⟩:=l;exact(x7,σ7,j,a.unpinned,r7,l)
theorem z1Y{g:TG}(b:Nat->St->Hp->Prop)(h0:b 0 σ H)(hl:∀i σ H,i<=xs.length->b i σ H->SqL K H a xs)
  (hs:∀i x σ H,xs[i]? =some x->b i σ H->g x σ H λσ2 H2=>tb {D with nx:=b (i+1),ct:=b (i+1),bk:=D.nx} σ2 H2) (hd:∀σ H,b xs.length σ H->D.nx σ H):
  ∃W:Nat->Nat->St->Hp->Prop,(∃m,W 0 m σ H)/\∀i m σ H,W i m σ H->
   ((Itl K a).stop i H/\D.nx σ H)\/((Itl K a).go i H/\∃N:St->Hp->Prop,(∀σ' H',N σ' H'->∃c,c<m/\W (i+1) c σ' H')/\∀x H',(Itl K a).yld i H x H'->g x σ H' λσ2 H2=>tb {D with nx:=N,ct:=N,bk:=D.nx} σ2 H2):=by
 refine(λi m σ H=>m=xs.length-i/\i<=xs.length/\b i σ H,(xs.length,by simp,qU _,h0),?_);rintro i m σ H ⟨rfl,hi,p⟩;have q:=hl i σ H hi p;by_cases af:i<xs.length
 .refine .inr ((xs,xs[i],q,by simp[af]),b (i+1),λσ' H' p'=>(xs.length-(i+1),by lia,rfl,af,p'),λx H' y=>?_);obtain⟨e,y⟩:=y;subst e;exact hs i x σ _ (y xs q) p
 .have e:i=xs.length:=by lia
  subst e;exact .inl ((xs,q,wA _),hd σ H p)
theorem z9L{g:TG}(b:Nat->St->Hp->Prop)(h0:b 0 σ H)(hl:∀i σ H,i<=xs.length->b i σ H->SqT K H a xs)
  (hs:∀i x σ H,xs[i]? =some x->b i σ H->g x σ H λσ2 H2=>tb {D with nx:=b (i+1),ct:=b (i+1),bk:=D.nx} σ2 H2) (hd:∀σ H,b xs.length σ H->D.nx σ H):
  ∃W:Nat->Nat->St->Hp->Prop,(∃m,W 0 m σ H)/\∀i m σ H,W i m σ H->
   ((Itt K a).stop i H/\D.nx σ H)\/((Itt K a).go i H/\∃N:St->Hp->Prop,(∀σ' H',N σ' H'->∃c,c<m/\W (i+1) c σ' H')/\∀x H',(Itt K a).yld i H x H'->g x σ H' λσ2 H2=>tb {D with nx:=N,ct:=N,bk:=D.nx} σ2 H2):=by
 refine(λi m σ H=>m=xs.length-i/\i<=xs.length/\b i σ H,(xs.length,by simp,qU _,h0),?_);rintro i m σ H ⟨rfl,hi,p⟩;have q:=hl i σ H hi p;by_cases af:i<xs.length
 .refine .inr ((xs,xs[i],q,by simp[af]),b (i+1),λσ' H' p'=>(xs.length-(i+1),by lia,rfl,af,p'),λx H' y=>?_);obtain⟨e,y⟩:=y;subst e;exact hs i x σ _ (y xs q) p
 .have e:i=xs.length:=by lia
  subst e;exact .inl ((xs,q,wA _),hd σ H p)
theorem z2v{lo:Int}{g:TG}(a:Nat->St->Hp->Prop)(h0:a 0 σ H)
  (hs:∀i σ H,i<n->a i σ H->g (.int (lo+i)) σ H λσ2 H2=>tb {D with nx:=a (i+1),ct:=a (i+1),bk:=D.nx} σ2 H2) (hd:∀σ H,a n σ H->D.nx σ H):
  ∃W:Nat->Nat->St->Hp->Prop,(∃m,W 0 m σ H)/\∀i m σ H,W i m σ H->
   ((Itr lo n).stop i H/\D.nx σ H)\/((Itr lo n).go i H/\∃N:St->Hp->Prop,(∀σ' H',N σ' H'->∃b,b<m/\W (i+1) b σ' H')/\∀x H',(Itr lo n).yld i H x H'->g x σ H' λσ2 H2=>tb {D with nx:=N,ct:=N,bk:=D.nx} σ2 H2):=by
 refine(λi m σ H=>m=n-i/\i<=n/\a i σ H,(n,by simp,qU _,h0),?_);rintro i m σ H ⟨rfl,hi,p⟩;by_cases af:i<n
 .refine .inr (af,a (i+1),λσ' H' p'=>(n-(i+1),by lia,rfl,af,p'),λx H' y=>?_);obtain⟨e,y⟩:=y;subst e y;exact hs i σ _ af p
 .have e:i=n:=by lia
  subst e;exact .inl (wA _,hd σ H p)
abbrev R2:=V->V->Hp->VK->Prop
def OpR(X:Cx)(f:Value->Value->Sem Value)(r:R2):Prop:=
 ∀(pins:List (Addr×Obj)) (s:Shared) (σ:St) (H:Hp) (x y:V) (v u:Value) (Q:VK),Inv X pins σ H s->RelV x v->RelV y u->r x y H Q->
  wpAny (model X.prog X.w) X.A (f v u) (EP X pins σ Q) X.xe s
def UnR(X:Cx)(f:Value->Sem Value)(r:V->Hp->VK->Prop):Prop:=
 ∀(pins:List (Addr×Obj)) (s:Shared) (σ:St) (H:Hp) (x:V) (v:Value) (Q:VK),Inv X pins σ H s->RelV x v->r x H Q->
  wpAny (model X.prog X.w) X.A (f v) (EP X pins σ Q) X.xe s
def ki(X:Cx)(f:Value)(r:List V->Hp->VK->Prop):Prop:=
 ∀(pins:List (Addr×Obj)) (s:Shared) (σ:St) (H:Hp) (xs:List V) (us:List Value) (Q:VK),Inv X pins σ H s->zM xs us->r xs H Q->
  wpAny (model X.prog X.w) X.A (call f us) (EP X pins σ Q) X.xe s
def zh0(X:Cx)(r:V->Hp->(Bool->Hp->Prop)->Prop):Prop:=
 ∀(pins:List (Addr×Obj)) (s:Shared) (σ:St) (H:Hp) (x:V) (v:Value) (Q:Bool->Hp->Prop),Inv X pins σ H s->RelV x v->r x H Q->
  wpAny (model X.prog X.w) X.A (truthy v) (TP X pins σ Q) X.xe s
def tOp(r:R2)(ta tb:TE):TE:=λσ H Q=>ta σ H λx H1=>tb σ H1 λy H2=>r x y H2 Q
def tUn(r:V->Hp->VK->Prop)(ta:TE):TE:=λσ H Q=>ta σ H λx H1=>r x H1 Q
def rI(C:Int->Int->Prop)(g:Int->Int->V):R2:=λx y H Q=>∃i j,x= .int i/\y= .int j/\C i j/\Q (g i j) H
def rI0(g:Int->Int->V):R2:=λx y H Q=>∃i j,x= .int i/\y= .int j/\Q (g i j) H
def rU(g:Int->V):V->Hp->VK->Prop:=λx H Q=>∃i,x= .int i/\Q (g i) H
variable{f:Value->Value->Sem Value}
section
variable{a b:Expr}{tb tc:TE}{pos:Pos}
theorem zfG(ha:PE X a ta)(i:PE X b tb){R:V->V->Hp->Prop}(I:Inv X pins σ H s)
  (h:ta σ H λx H1=>tb σ H1 λy H2=>R x y H2)  
  (j:∀v u s2 x y H2,Inv X pins σ H2 s2->RelV x v->RelV y u->R x y H2->wpAny (model X.prog X.w) X.A (f v u) Q X.xe s2):
  wpAny (model X.prog X.w) X.A (eval a X.env) (λv d=>wpAny (model X.prog X.w) X.A (eval b X.env) (λu c=>wpAny (model X.prog X.w) X.A (f v u) Q X.xe c) X.xe d) X.xe s:=by
 refine thn (ha pins s σ H _ I h) ?_;rintro v s1 ⟨x,H1,e,r1,q1⟩;refine thn (i pins s1 σ H1 _ e q1) ?_;rintro u s2 ⟨y,H2,l,r2,n⟩;exact j v u s2 x y H2 l r1 r2 n
theorem zo{op:Operator}{r:R2}(d:OpR X (binaryOp op) r)(ha:PE X a ta)(f:PE X b tb):PE X (.BinOp a op b pos) (tOp r ta tb):=by
 intro pins s σ H Q I h;exact wpAny_BinOp (zfG ha f I h λv u s2 x y H2 i c e q=>d pins s2 σ H2 x y v u Q i c e q)
theorem z69{op:UnaryOp}{r:V->Hp->VK->Prop}(c:UnR X (unaryOp op) r)(ha:PE X a ta):PE X (.UnaryOp op a pos) (tUn r ta):=by
 intro pins s σ H Q I h;exact UnaryOp_ (thn (ha pins s σ H _ I h) λv s1 ⟨x,H1,b,r1,q1⟩=>c pins s1 σ H1 x v Q b r1 q1)
theorem opI{C:Int->Int->Prop}{g:Int->Int->Int}
  (rule:∀(i j:Int) (t u:Tok) (s:Shared) (Q:Value->Shared->Prop) (E:Value->Shared->Prop),C i j->Q (.int (g i j) s.toks) {s with toks:=s.toks+1}->wpAny (model X.prog X.w) X.A (f (.int i t) (.int j u)) Q E s):
  OpR X f (rI C λi j=> .int (g i j)):=by
 intro pins s σ H x y v u Q I a b h;obtain⟨i,j,rfl,rfl,hc,q⟩:=h;obtain⟨t,rfl⟩:=a;obtain⟨t',rfl⟩:=b;exact rule i j t t' s _ _ hc (.int (g i j),H,I.tok _,(_,rfl),q)
theorem zfO{g:Int->Int->Int}
  (rule:∀(i j:Int) (t u:Tok) (s:Shared) (Q:Value->Shared->Prop) (E:Value->Shared->Prop),Q (.int (g i j) s.toks) {s with toks:=s.toks+1}->wpAny (model X.prog X.w) X.A (f (.int i t) (.int j u)) Q E s):
  OpR X f (rI0 λi j=> .int (g i j)):=by
 intro pins s σ H x y v u Q I a b h;obtain⟨i,j,rfl,rfl,q⟩:=h;obtain⟨t,rfl⟩:=a;obtain⟨t',rfl⟩:=b;exact rule i j t t' s _ _ (.int (g i j),H,I.tok _,(_,rfl),q)
theorem zeU{g:Int->Int->Bool}
  (rule:∀(i j:Int) (t u:Tok) (s:Shared) (Q:Value->Shared->Prop) (E:Value->Shared->Prop),Q (.bool (g i j)) s->wpAny (model X.prog X.w) X.A (f (.int i t) (.int j u)) Q E s):
  OpR X f (rI0 λi j=> .bl (g i j)):=by
 intro pins s σ H x y v u Q I a b h;obtain⟨i,j,rfl,rfl,q⟩:=h;obtain⟨t,rfl⟩:=a;obtain⟨t',rfl⟩:=b;exact rule i j t t' s _ _ (.bl (g i j),H,I,rfl,q)
def zh2(i j:Int):Prop:=0<j/\j<1073741824
def zg4(i j:Int):Prop:=0<=j/\j<=1000000/\i.natAbs<2 ^ 64
def zfl(i j:Int):Prop:=(-(2 ^ 64)<i/\i<2 ^ 64)\/(-(2 ^ 64)<j/\j<2 ^ 64)
theorem zfl.ok{i j:Int}(h:zfl i j):IntMulOk i j:=by
 rcases h with⟨h1,h2⟩|⟨h1,h2⟩
 .exact .of_left (intBits_le_64 h1 h2)
 .exact .of_right (intBits_le_64 h1 h2)
def yw:OpR X (binaryOp .Add) (rI0 λi j=> .int (i+j)):=zfO λv v v v v v v q=>add_int q
def z19:OpR X (binaryOp .Sub) (rI0 λi j=> .int (i-j)):=zfO λv v v v v v v q=>sub_int q
def z5i:OpR X (binaryOp .Mult) (rI zfl λi j=> .int (i*j)):=opI λv v v v v v v hc q=>mul_int q hc.ok
theorem jZ:OpR X (binaryOp .FloorDiv) (rI zh2 λi j=> .int (i/j)):=opI λi j v v v v v hc q=>by
 have h1:(0:Int)<j:=hc.1;have h2:j<1073741824:=hc.2;exact floordiv_int (by lia) (by rw[Int.fdiv_eq_ediv_of_nonneg i (by lia)];exact q) (.inl (PyProof.noPylong_small (by lia)))
theorem zW:OpR X (binaryOp .Mod) (rI (λv j=>0<j) λi j=> .int (i%j)):=opI λi j v v v v v hc q=>by
 have h1:(0:Int)<j:=hc;exact mod_int' (by lia) (by rw[Int.fmod_eq_emod_of_nonneg i (by lia)];exact q)
def zfL:OpR X (binaryOp .Pow) (rI zg4 λi j=> .int (i ^ j.toNat)):=opI λv v v v v v v hc q=>pow_int_small hc.1 hc.2.1 hc.2.2 q
theorem unI{f:Value->Sem Value}{g:Int->Int}
  (rule:∀(i:Int) (t:Tok) (s:Shared) (Q:Value->Shared->Prop) (E:Value->Shared->Prop),Q (.int (g i) s.toks) {s with toks:=s.toks+1}->wpAny (model X.prog X.w) X.A (f (.int i t)) Q E s):
  UnR X f (rU λi=> .int (g i)):=by
 intro pins s σ H x v Q I a h;obtain⟨i,rfl,q⟩:=h;obtain⟨t,rfl⟩:=a;exact rule i t s _ _ (.int (g i),H,I.tok _,(_,rfl),q)
def z3U:UnR X (unaryOp .USub) (rU λi=> .int (-i)):=unI λv v v v v q=>neg_int q
end
noncomputable def zfy:V->V->Bool
 | .non,.non=>true | .non,.int _=>true | .int _,.non=>true | .non,.bl _=>true | .bl _,.non=>true | .non,.str _=>true | .str _,.non=>true
 | .int _,.int _=>true | .bl _,.bl _=>true | .str _,.str _=>true | .byt _,.byt _=>true
 | .int _,.str _=>true | .str _,.int _=>true | .bl _,.str _=>true | .str _,.bl _=>true
 | _,_=>false
def rEq:R2:=λx y H Q=>zfy x y=true/\Q (.bl (decide (x=y))) H
def rNe:R2:=λx y H Q=>zfy x y=true/\Q (.bl (!decide (x=y))) H
theorem z9q{i j:Int}:decide (V.int i=V.int j)=(i == j):=by
 rw[w09];simp
theorem zc7{i j:Bool}:decide (V.bl i=V.bl j)=(i == j):=by
 rw[w09];simp
theorem z9O{i j:Str}:decide (V.str i=V.str j)=(i == j):=by
 rw[w09];simp
theorem za6{i j:Array UInt8}:decide (V.byt i=V.byt j)=(i.toList == j.toList):=by
 rw[w09];cases i;cases j;simp
variable{op:CmpOp}
section
variable{a b:Expr}{tb tc:TE}{pos:Pos}
theorem jf{Q:VK}{k k':Bool}(I:Inv X pins σ H s)(q:Q (.bl k) H)(e:k=k'):EP X pins σ Q (.bool k') s:=by
 subst e;exact(.bl k,H,I,rfl,q)
theorem zO:OpR X (compareOp .Eq) rEq:=by
 intro pins s σ H x y v u Q I b a h;obtain⟨hs,q⟩:=h;cases x with
 | non=>
  cases b;cases y with
  | non=>cases a;exact PySem.EqNone.eq_none_none (jf I q (by simp))
  | bl j=>cases a;exact PySem.EqNone.eq_none_bool (jf I q (by simp))
  | int j=>obtain⟨t',rfl⟩:=a;exact PySem.EqNone.eq_none_int (jf I q (by simp))
  | str j=>obtain⟨t',rfl⟩:=a;exact PySem.EqNone.eq_none_str (jf I q (by simp))
  | _=>exact absurd (show false=true from hs) wU
 | bl i=>
  cases b;cases y with
  | non=>cases a;exact PySem.EqNone.eq_bool_none (jf I q (by simp))
  | bl j=>cases a;exact eq_bool (jf I q zc7)
  | str j=>obtain⟨t',rfl⟩:=a;exact PySem.EqMixed.eq_bool_str (jf I q (by simp))
  | _=>exact absurd (show false=true from hs) wU
 | int i=>
  obtain⟨t,rfl⟩:=b;cases y with
  | non=>cases a;exact PySem.EqNone.eq_int_none (jf I q (by simp))
  | int j=>obtain⟨t',rfl⟩:=a;exact eq_int (jf I q z9q)
  | str j=>obtain⟨t',rfl⟩:=a;exact PySem.EqMixed.eq_int_str (jf I q (by simp))
  | _=>exact absurd (show false=true from hs) wU
 | str i=>
  obtain⟨t,rfl⟩:=b;cases y with
  | non=>cases a;exact PySem.EqNone.eq_str_none (jf I q (by simp))
  | bl j=>cases a;exact PySem.EqMixed.eq_str_bool (jf I q (by simp))
  | int j=>obtain⟨t',rfl⟩:=a;exact PySem.EqMixed.eq_str_int (jf I q (by simp))
  | str j=>obtain⟨t',rfl⟩:=a;exact eq_str (jf I q z9O)
  | _=>exact absurd (show false=true from hs) wU
 | byt i=>
  obtain⟨t,rfl⟩:=b;cases y with
  | byt j=>obtain⟨t',rfl⟩:=a;exact PySem.W.eq_bytes (jf I q za6)
  | _=>exact absurd (show false=true from hs) wU
 | _=>cases y<;>exact absurd (show false=true from hs) wU
theorem z0R:OpR X (compareOp .NotEq) rNe:=by
 intro pins s σ H x y v u Q I b a h;obtain⟨hs,q⟩:=h;cases x with
 | non=>
  cases b;cases y with
  | non=>cases a;exact PySem.EqNone.ne_none_none (jf I q (by simp))
  | bl j=>cases a;exact PySem.EqNone.ne_none_bool (jf I q (by simp))
  | int j=>obtain⟨t',rfl⟩:=a;exact PySem.EqNone.ne_none_int (jf I q (by simp))
  | str j=>obtain⟨t',rfl⟩:=a;exact PySem.EqNone.ne_none_str (jf I q (by simp))
  | _=>exact absurd (show false=true from hs) wU
 | bl i=>
  cases b;cases y with
  | non=>cases a;exact PySem.EqNone.ne_bool_none (jf I q (by simp))
  | bl j=>cases a;exact ne_bool (jf I q (Qd not zc7))
  | str j=>obtain⟨t',rfl⟩:=a;exact PySem.EqMixed.ne_bool_str (jf I q (by simp))
  | _=>exact absurd (show false=true from hs) wU
 | int i=>
  obtain⟨t,rfl⟩:=b;cases y with
  | non=>cases a;exact PySem.EqNone.ne_int_none (jf I q (by simp))
  | int j=>obtain⟨t',rfl⟩:=a;exact ne_int (jf I q (Qd not z9q))
  | str j=>obtain⟨t',rfl⟩:=a;exact PySem.EqMixed.ne_int_str (jf I q (by simp))
  | _=>exact absurd (show false=true from hs) wU
 | str i=>
  obtain⟨t,rfl⟩:=b;cases y with
  | non=>cases a;exact PySem.EqNone.ne_str_none (jf I q (by simp))
  | bl j=>cases a;exact PySem.EqMixed.ne_str_bool (jf I q (by simp))
  | int j=>obtain⟨t',rfl⟩:=a;exact PySem.EqMixed.ne_str_int (jf I q (by simp))
  | str j=>obtain⟨t',rfl⟩:=a;exact ne_str (jf I q (Qd not z9O))
  | _=>exact absurd (show false=true from hs) wU
 | byt i=>
  obtain⟨t,rfl⟩:=b;cases y with
  | byt j=>obtain⟨t',rfl⟩:=a;exact PySem.W.ne_bytes (jf I q (Qd not za6))
  | _=>exact absurd (show false=true from hs) wU
 | _=>cases y<;>exact absurd (show false=true from hs) wU
def z6h:OpR X (compareOp .Lt) (rI0 λi j=> .bl (decide (i<j))):=zeU λv v v v v v v q=>lt_int q
def zeB:OpR X (compareOp .LtE) (rI0 λi j=> .bl (decide (i<=j))):=zeU λv v v v v v v q=>le_int q
def z5Q:OpR X (compareOp .Gt) (rI0 λi j=> .bl (decide (j<i))):=zeU λv v v v v v v q=>gt_int q
theorem z8P:OpR X (compareOp .Is) (λx y H Q=>y= .non/\Q (.bl (decide (x= .non))) H):=by
 intro pins s σ H x y v u Q I a b h;obtain⟨rfl,q⟩:=h;cases b;refine is_none_gen (jf I q ?_);cases x<;>first
  | (cases a;rfl)
  | (obtain⟨t,rfl⟩:=a;rfl)
theorem z3h:OpR X (compareOp .IsNot) (λx y H Q=>y= .non/\Q (.bl (!decide (x= .non))) H):=by
 intro pins s σ H x y v u Q I a b h;obtain⟨rfl,q⟩:=h;cases b;refine isnot_none_gen (jf I q ?_);cases x<;>first
  | (cases a;rfl)
  | (obtain⟨t,rfl⟩:=a;rfl)
theorem zcP(b:Expr)(h: ~~~(op≠ .In))(h2: ~~~(op≠ .NotIn)):behindInMarks op b=false:=by
 have c:(op == CmpOp.In)=false:=by cases op<;>first|rfl|exact absurd rfl h
 have a:(op == CmpOp.NotIn)=false:=by cases op<;>first|rfl|exact absurd rfl h2
 cases b<;>simp[behindInMarks,c,a]
theorem z4y{r:R2}(d:OpR X (compareOp op) r)(ha:PE X a ta)(f:PE X b tb)(hm:behindInMarks op b=false):PE X (.Compare a [op] [b] pos) (tOp r ta tb):=by
 intro pins s σ H Q I h;exact wpAny_Compare1 (zfG ha f I h λv u s2 x y H2 i c e q=>d pins s2 σ H2 x y v u Q i c e q) hm
def zeF(t:TE):TT:=λσ H Q=>t σ H λx H'=>∃k,x= .bl k/\Q k H'
theorem z01{r:R2}(i:OpR X (compareOp op) r)(ha:PE X a ta)(l:PE X b tb)(hm:behindInMarks op b=false):PT X (.Compare a [op] [b] pos) (zeF (tOp r ta tb)):=by
 intro pins s σ H Q I h;refine wpAny_isTrue_Compare1 (thn (ha pins s σ H _ I h) λv s1 ⟨x,H1,j,r1,q1⟩=>thn (l pins s1 σ H1 _ j q1) λu s2 ⟨y,H2,o,r2,p⟩=>
  thn (i pins s2 σ H2 x y v u _ o r1 r2 p) λc q ⟨z,d,f,r3,k,e,n⟩=>?_) hm
 subst e;cases r3;exact w0t (d,f,n)
def zgp(K:W.Frag)(x:V)(H:Hp)(k:Bool):Prop:=
 match x with
 | .non=>k=false
 | .bl b=>k=b
 | .int i=>k=(i != 0)
 | .str y=>y.length<=sizeLine/\k=((y.length:Int) != 0)
 | .byt y=>y.size<=sizeLine/\k=((y.size:Int) != 0)
 | .ref p=>(∃xs,SqL K H p xs/\k= !xs.isEmpty)\/(∃xs,SqT K H p xs/\k= !xs.isEmpty)\/∃kvs,H p=some (.dK kvs)/\k= !kvs.isEmpty
 | _=>False
theorem z8g{kvs:List (κ×V)}{vs:List (κ×Value)}(r:KV kvs vs):(!vs.isEmpty)= !kvs.isEmpty:=by
 cases r<;>rfl
theorem z4U{its:List Value}(r:zM xs its):(!its.toArray.isEmpty)= !xs.isEmpty:=by
 cases r<;>simp
theorem z2W:(sizeLine:Nat)<2 ^ 63:=by rw[Qq];decide
theorem zfC:zh0 X (λx H Q=>∃k,zgp X.K x H k/\Q k H):=by
 intro pins s σ H x v Q I c h;obtain⟨k,e,q⟩:=h;have hl:=z2W;have hs:sizeLine=16777216:=Qq;cases x with
 | non=>
  cases c;have a:k=false:=e;subst a;exact truthy_none (H,I,q)
 | bl b=>
  cases c;have a:k=b:=e;subst a;exact w0t (H,I,q)
 | int i=>
  obtain⟨t,rfl⟩:=c;have a:k=(i != 0):=e;subst a;exact PySem.P.truthy_int (H,I,q)
 | str y=>
  obtain⟨t,rfl⟩:=c;obtain⟨d,a⟩:y.length<=sizeLine/\k=((y.length:Int) != 0):=e;subst a;exact PySem.P.truthy_str (by lia) (H,I.tok _,q)
 | byt y=>
  obtain⟨t,rfl⟩:=c;obtain⟨d,a⟩:y.size<=sizeLine/\k=((y.size:Int) != 0):=e;subst a;exact PySem.W.truthy_bytes (by lia) (H,I.tok _,q)
 | ref p=>
  cases c;have a:(∃xs,SqL X.K H p xs/\k= !xs.isEmpty)\/(∃xs,SqT X.K H p xs/\k= !xs.isEmpty)\/∃kvs,H p=some (.dK kvs)/\k= !kvs.isEmpty:=e
  rcases a with⟨xs,hx,a⟩|⟨xs,hx,a⟩|⟨kvs,hx,a⟩
  .subst a;obtain⟨its,r,pl,hz⟩:=I.list hx;have hlen:=r.length;exact wpAny_truthy_list pl.isList (by simp only[wB];lia) (H,I.tok _,by rw[z4U r];exact q)
  .subst a;obtain⟨its,r,pl,hz⟩:=I.tuple hx;have hlen:=r.length;exact truthy_tuple pl (by simp only[wB];lia) (H,I.tok _,by rw[z4U r];exact q)
  .subst a;obtain⟨hz,f,vs,r,m⟩:kvs.length<=sizeLine/\(p == sysModules)=false/\∃vs,KV kvs vs/\s.heap.DictOf (jw X.prog X.w) p vs:=I.hok p _ hx
   have hlen:kvs.length=vs.length:=Paired.length r;exact wpAny_truthy_dict f m (by lia) (H,I.tok _,by rw[z8g r];exact q)
 | _=>exact(show False from e).elim
theorem z29(ha:PE X a ta)(he:∀whole,isTrue a X.env whole=(do let v<-whole;standAt a.pos;holding [v] (truthy v))):
  PT X a (λσ H Q=>ta σ H λx H'=>∃k,zgp X.K x H' k/\Q k H'):=by
 intro pins s σ H Q I h;exact isTrue_plain (thn (ha pins s σ H _ I h) λv s1 ⟨x,H1,b,r1,q1⟩=>zfC pins s1 σ H1 x v Q b r1 q1) (he _)
theorem zm:OpR X (binaryOp .Add) (λx y H Q=>∃i j,x= .str i/\y= .str j/\i.length+j.length<=sizeLine/\Q (.str (i++j)) H):=by
 intro pins s σ H x y v u Q I a b h;obtain⟨i,j,rfl,rfl,hz,q⟩:=h;obtain⟨t,rfl⟩:=a;obtain⟨t',rfl⟩:=b;exact add_str (λt' tk=>(.str (i++j),H,I.tok _,(_,rfl),q)) hz
theorem vals1{x:V}(r:zM [x] us):∃u,us= [u]/\RelV x u:=by
 cases r with
 | cons r1 r2=>cases r2;exact(_,rfl,r1)
theorem vals2{x:V}(r:zM [x,y] us):∃u a,us= [u,a]/\RelV x u/\RelV y a:=by
 cases r with
 | cons r1 r2=>
  cases r2 with
  | cons r3 b=>cases b;exact(_,_,rfl,r1,r3)
theorem zba(hc:X.calm=true):ki X (.builtin "max") (λxs H Q=>∃i j,xs= [.int i,.int j]/\Q (.int (if j > i then j else i)) H):=by
 intro pins s σ H xs us Q I r h;obtain⟨i,j,rfl,q⟩:=h;obtain⟨u,a,rfl,⟨t,rfl⟩,⟨t',rfl⟩⟩:=vals2 r;refine max_two_ints (I.ok.hd hc) λh' tk k=>(_,H,I.kept k,?_,q)
 by_cases hj:j > i
 .rw [qd hj,qd hj];exact(_,rfl)
 .rw [wW hj,wW hj];exact(_,rfl)
theorem z5R(hc:X.calm=true):ki X (.builtin "min") (λxs H Q=>∃i j,xs= [.int i,.int j]/\Q (.int (if j<i then j else i)) H):=by
 intro pins s σ H xs us Q I r h;obtain⟨i,j,rfl,q⟩:=h;obtain⟨u,a,rfl,⟨t,rfl⟩,⟨t',rfl⟩⟩:=vals2 r;refine min_two_ints (I.ok.hd hc) λh' tk k=>(_,H,I.kept k,?_,q)
 by_cases hj:j<i
 .rw [qd hj,qd hj];exact(_,rfl)
 .rw [wW hj,wW hj];exact(_,rfl)
theorem z5S:ki X (.type "int") (λxs H Q=>(∃i,xs= [.int i]/\Q (.int i) H)\/∃k,xs= [.bl k]/\Q (.int (if k then 1 else 0)) H):=by
 intro pins s σ H xs us Q I r h;rcases h with⟨i,rfl,q⟩|⟨k,rfl,q⟩
 .obtain⟨u,rfl,t,rfl⟩:=vals1 r;exact call_int_int (.int i,H,I,(_,rfl),q)
 .obtain⟨u,rfl,r1⟩:=vals1 r;cases r1;exact call_int_bool (.int (if k then 1 else 0),H,I.tok _,(_,rfl),q)
theorem z6L:ki X (.type "str") (λxs H Q=>∃i,xs= [.int i]/\i.natAbs.log2<1920/\Q (.str (toString i)) H):=by
 intro pins s σ H xs us Q I r h;obtain⟨i,rfl,hz,q⟩:=h;obtain⟨u,rfl,t,rfl⟩:=vals1 r;exact PySem.P.str_of_int hz (.str _,H,I.tok _,(_,rfl),q)
end
structure ObjM(h:Heap)(x dx C:Addr)(mA:Str->Option Value):Prop where
 obj:h.get? x=some (PySem.W.instObj C dx)
 ns:h.Ns1 dx mA
 ne:dx≠x
variable{dx:Addr}{mA:Str->Option Value}
theorem zbc(n:h.Ns1 dx mA):∃od,h.get? dx=some od/\∀name,PySem.W.lookIn name od=some (mA name):=by
 obtain⟨o,es,ep,c,hd,f,_,hm⟩:=n;refine(o,c,λname=>?_);have e:=hm name;unfold nsFind findBy at e;rw[<-Array.find?_toList]at e;unfold PySem.W.lookIn;rw[hd];dsimp only;split
 .rename_i q;rw[q]at e;exact Qd some e
 .rename_i q;rw[q]at e;have a:es.toList.any (·.refKey)=false:=by
   rw[List.any_eq_false];intro y b;obtain⟨z,t,d⟩:=f y (Array.mem_toList_iff.mp b);simp[DictEntry.refKey,d]
  have a':¬es.toList.any (·.refKey)=true:=by rw[a];exact wU
  rw[wW a'];exact Qd some e
variable{C:Addr}
theorem ObjM.look{x:Addr}(I:ObjM h x dx C mA):∃od,PySem.W.InstAt h x (PySem.W.instObj C dx) C (some od)/\∀name,PySem.W.lookIn name od=some (mA name):=
 let ⟨od,ho,hl⟩:=zbc I.ns
 (od,(I.obj,rfl,rfl,ho),hl)
variable{prog:Program}{kw:List (Str×Value)}
section
variable{K:W.Frag}{x f:Addr}{name:Str}{v:Value}
theorem get_map{expr:Bool}(X:K.In s.heap)(I:ObjM s.heap x dx C mA)(d:PySem.W.plainGet K C name=true)(c:PySem.W.hasDictIn K C=true)
  (ha:PySem.W.findIn K (.ref C) name=some none) (a:mA name=some v) (b:PySem.W.handedIn v=true) (h:Q v {s with toks:=s.toks+1}):
  wpAny (model prog w) A (getAttr (.ref x) name expr) Q E s:=by
 obtain⟨od,J,hl⟩:=I.look;exact PySem.W.get_value X J (PySem.W.plainGet_of d).1 (PySem.W.findObj_own c ha rfl (by rw[hl,a])) b h
theorem zbq{pl:Sem Bool}{Q:Value×List Value->Shared->Prop}(X:K.In s.heap)(I:ObjM s.heap x dx C mA)(a:PySem.W.plainGet K C name=true)
  (c:PySem.W.findIn K (.ref C) name=some (some (.ref f))) (ht:PySem.W.isFn K (.ref f)=true) (b:mA name=none) (h:Q (.ref f,[.ref x]) s):
  wpAny (model prog w) A (getMethod (.ref x) name pl) Q E s:=by
 obtain⟨od,J,hl⟩:=I.look;exact PySem.W.method_fn X J (PySem.W.plainGet_of a).1 (PySem.W.plainGet_of a).2 c (QC.mp ht) (by show(PySem.W.lookIn name od).map (·.isSome)=some false;rw[hl,b];rfl) h
theorem ze9{ns:List Str}{Q:Unit->Shared->Prop}(X:K.In s.heap)(I:ObjM s.heap x dx C mA)
  (hs:PySem.W.findIn K (.ref C) "__setattr__"=some (some (.builtin "object.__setattr__"))) (hp:PySem.W.plainOver K C=true) (ht:PySem.W.takerIn K C name=some none) (j:PySem.W.hasDictIn K C=true)
  (o:PySem.Within mA ns) (hsz:ns.length<=sizeLine)
  (h:∀h',ObjM h' x dx C (λy=>if y=name then some v else mA y)->Heap.SameBut dx s.heap h'->Q () {s with heap:=h',toks:=s.toks+2}):
  wpAny (model prog w) A (setAttr (.ref x) name v) Q E s:=by
 obtain⟨od,J,hl⟩:=I.look;refine PySem.W.set_plain X J hs (PySem.W.osa_open (s:={s with toks:=s.toks+1}) (r:=none) X J hp ht λb=>?_);obtain⟨cd,hc,l⟩:=PySem.W.any_some j;have e:s.heap.get? x=some (.ref C,some dx,.plain,#[]):=I.obj;refine wD (q9 (wD (wD (wpAny_loadPart e (wD (PySem.W.Looks.here (s:={s with toks:=s.toks+1}) (PySem.W.looks_clsIn X hc) ?_))))));rw[l];refine q9 (a:=some dx) (wD (q9 (wD ?_)));refine wpAny_nsSet1 (s:={s with toks:=s.toks+1}) I.ns λh' c d=>?_
 obtain⟨t,p,q,n,i,f⟩:=c.count (PySem.Within.cons name v o);refine wD (wpAny_lookBehind n (by rw[i];exact pastItsLine_dict (wY f (by rw[wP];lia))) ?_);exact q9 (h _ ((d.2 _ (w1G I.ne)).trans I.obj,c,I.ne) d)
theorem zbh{R:Result->Shared->Prop}{vs:List Value}(X:K.In s.heap)(hm:PySem.W.makesIn K C=true)
  (hi:PySem.W.findIn K (.ref C) "__init__"=some (some (.ref f))) (a:PySem.W.typeIn K (.ref f)=some (.type "function"))
  (h:codeAny (model prog w) (A.under (.builtin "type.__call__" (.ref C::vs,kw))) (.call (.ref f) (.ref (s.heap.objs.size+1)::vs,kw)) (PySem.W.InitBack (s.heap.objs.size+1) R)
   {s with heap:=(s.heap.push PySem.W.emptyDict).push (PySem.W.instObj C s.heap.objs.size)}):
  codeAny (model prog w) A (.call (.ref C) (vs,kw)) R s:=by
 obtain⟨b,g,d,t,os⟩:=s;exact PySem.W.make_core (PySem.W.makes_of X hm) (PySem.W.looks_findIn X hi) (λself=>PySem.W.bind_fn X self a) (.inl rfl) h
end
noncomputable def yT(f:Str)(v:V):List (Str×V)->List (Str×V)
 | []=> [(f,v)]
 | (g,x)::r=>if g=f then(g,v)::r else(g,x)::yT f v r
theorem z42(f g:Str)(v:V):∀fs:List (Str×V),(yT f v fs).lookup g=if g=f then some v else fs.lookup g
 | []=>by
  show List.lookup g [(f,v)]=_
  by_cases h:g=f
  .have a:(g == f)=true:=QC.mpr h;simp only[List.lookup,a,qd h]
  .have a:(g == f)=false:=w0x.mpr h;simp only[List.lookup,a,wW h]
 | (k,x)::r=>by
  have b:=z42 f g v r;rw[show yT f v ((k,x)::r)=(if k=f then(k,v)::r else(k,x)::yT f v r)from rfl];by_cases hk:k=f
  .rw [qd hk];by_cases h:g=k
   .have a:(g == k)=true:=QC.mpr h;simp only[List.lookup,a,qd (h.trans hk)]
   .have a:(g == k)=false:=w0x.mpr h;simp only[List.lookup,a,wW (λe:g=f=>h (e.trans hk.symm))]
  .rw [wW hk];by_cases h:g=k
   .have a:(g == k)=true:=QC.mpr h;simp only[List.lookup,a,wW (λe:g=f=>hk (h.symm.trans e))]
   .have a:(g == k)=false:=w0x.mpr h;simp only[List.lookup,a];exact b
theorem z3C(f:Str)(v:V):∀fs:List (Str×V),f∈(yT f v fs).map (·.1)/\∀g,g∈fs.map (·.1)->g∈(yT f v fs).map (·.1)
 | []=>(by simp[yT],λg h=>by simp at h)
 | (k,x)::r=>by
  obtain⟨a,b⟩:=z3C f v r;rw[show yT f v ((k,x)::r)=(if k=f then(k,v)::r else(k,x)::yT f v r)from rfl];by_cases hk:k=f
  .rw [qd hk];subst hk;exact(by simp,λg h=>by simpa using h)
  .rw [wW hk];refine(?_,λg h=>?_)
   .rw [qF];exact wZ _ a
   .rw [qF]at h ⊢;rcases wL.mp h with e|e
    .exact wL.mpr (.inl e)
    .exact wZ _ (b g e)
theorem z46(f:Str)(v:V):∀fs:List (Str×V),(yT f v fs).length<=fs.length+1
 | []=>by simp[yT]
 | (k,x)::r=>by
  have a:=z46 f v r;rw[show yT f v ((k,x)::r)=(if k=f then(k,v)::r else(k,x)::yT f v r)from rfl];by_cases hk:k=f
  .rw [qd hk,wP,wP];lia
  .rw [wW hk,wP,wP];lia
theorem z1S.some_of{v:V}{o:Option Value}(r:z1S (some v) o):∃u,o=some u/\RelV v u:=by
 cases o with
 | none=>exact(show False from r).elim
 | some u=>exact(u,rfl,r)
theorem z1S.none_of{o:Option Value}(r:z1S none o):o=none:=by
 cases o with
 | none=>rfl
 | some u=>exact(show False from r).elim
theorem zb5{v:V}(r:RelV v u):PySem.W.handedIn u=true:=by
 cases v with
 | non=>cases (show u=Value.none from r);rfl
 | bl b=>cases (show u=Value.bool b from r);rfl
 | int i=>obtain⟨t,e⟩:=(show∃t,u=Value.int i t from r);cases e;rfl
 | str x=>obtain⟨t,e⟩:=(show∃t,u=Value.str x t from r);cases e;rfl
 | byt b=>obtain⟨t,e⟩:=(show∃t,u=Value.bytes b t from r);cases e;rfl
 | flt b=>obtain⟨t,e⟩:=(show∃t,u=Value.float b t from r);cases e;rfl
 | ref a=>cases (show u=Value.ref a from r);rfl
 | ty n=>cases (show u=Value.type n from r);rfl
section
variable{fs iT:List (Str×V)}
theorem z4s(hok:HOk P w H h)(e:H a=some (.ins C dx fs)):∃mA,ObjM h a dx C mA/\(∀f,z1S (fs.lookup f) (mA f))/\PySem.Within mA (fs.map (·.1))/\fs.length<=1000/\H dx=some (.own a):=by
 obtain⟨d,z,ne,b,mA,n,r,q⟩:=(show jk P w H h a (.ins C dx fs)from hok a _ e);exact(mA,(b,n,ne),r,q,z,d)
end
structure Cls(K:W.Frag)(C:Addr):Prop where
 pg:PySem.W.plainGet K C Str.empty=true
 hd:PySem.W.hasDictIn K C=true
 po:PySem.W.plainOver K C=true
 sa:PySem.W.findIn K (.ref C) "__setattr__"=some (some (.builtin "object.__setattr__"))
theorem Cls.get{K:W.Frag}{C:Addr}(c:Cls K C)(f:Str):PySem.W.plainGet K C f=true:=c.pg
def NoAttr(K:W.Frag)(C:Addr)(f:Str):Prop:=PySem.W.findIn K (.ref C) f=some none
theorem NoAttr.taker{f:Str}(n:NoAttr K C f):PySem.W.takerIn K C f=some none:=by
 unfold PySem.W.takerIn;rw[show PySem.W.findIn K (.ref C) f=some none from n]
 rfl
structure Con(K:W.Frag)(C:Addr)(f:Str)(v:V)(u:Value):Prop where
 at_:PySem.W.findIn K (.ref C) f=some (some u)
 rel:RelV v u
 get:PySem.W.specialIn K u "__get__"=some none
 cp:PySem.W.copiedNames.contains f=false
structure Meth(K:W.Frag)(C:Addr)(m:Str)(f:Addr):Prop where
 at_:PySem.W.findIn K (.ref C) m=some (some (.ref f))
 fn:PySem.W.isFn K (.ref f)=true
 kp:PySem.W.keepIn K (.ref f)=true
section
variable{σ:St}{fs:List (Str×V)}{f:Str}{v:V}
theorem z8F{b:Bool}(I:Inv X pins σ H s)(e:H a=some (.ins C dx fs))(c:Cls X.K C)(n:NoAttr X.K C f)(l:fs.lookup f=some v)
  (h:∀u s',Inv X pins σ H s'->RelV v u->Q u s'):wpAny (model X.prog X.w) A (getAttr (.ref a) f b) Q E s:=by
 obtain⟨mA,O,r,_,_,_⟩:=z4s I.hok e;obtain⟨u,i,d⟩:=z1S.some_of (v:=v) (o:=mA f) (by rw[<-l];exact r f);exact get_map I.kIn O (c.get f) c.hd n i (zb5 d) (h u _ (I.tok _) d)
theorem z2T{m:Str}{g:Addr}{pl:Sem Bool}{Q:Value×List Value->Shared->Prop}(I:Inv X pins σ H s)(e:H a=some (.ins C dx fs))(c:Cls X.K C)(k:Meth X.K C m g)(l:fs.lookup m=none)
  (h:Q (.ref g,[.ref a]) s):wpAny (model X.prog X.w) A (getMethod (.ref a) m pl) Q E s:=by
 obtain⟨mA,O,r,_,_,_⟩:=z4s I.hok e;have hn:mA m=none:=z1S.none_of (by rw[<-l];exact r m);exact zbq I.kIn O (c.get m) k.at_ k.fn hn h
theorem z99{Q:Unit->Shared->Prop}(I:Inv X pins σ H s)(e:H a=some (.ins C dx fs))(c:Cls X.K C)(n:NoAttr X.K C f)(hl:fs.length<1000)(j:RelV y u)
  (h:∀s',Inv X pins σ (upd H a (.ins C dx (yT f y fs))) s'->Q () s'):wpAny (model X.prog X.w) A (setAttr (.ref a) f u) Q E s:=by
 obtain⟨mA,O,r,wi,_,i⟩:=z4s I.hok e;have hz:(fs.map (·.1)).length<=sizeLine:=by rw[w9,Qq];lia
 refine ze9 I.kIn O c.sa c.po n.taker c.hd wi hz λh' d p=>h _ ?_
 have hd:∃o,h'.get? dx=some o:=let ⟨o,_,_,e',_⟩:=d.ns;(o,e')
 refine I.write (x:=a) (e:=dx) (by rw[e];exact w0e) (.inr i) (λb q l z=>(p.2 b l).trans z) hd ?_;refine(by rw[zj O.ne];exact i,?_,O.ne,d.obj,_,d.ns,λg=>?_,λg t=>?_)
 .have:=z46 f y fs;lia
 .show z1S ((yT f y fs).lookup g) (if g=f then some u else mA g)
  rw[z42];by_cases q:g=f
  .rw [qd q,qd q];exact j
  .rw [wW q,wW q];exact r g
 .by_cases q:g=f
  .rw [q];exact(z3C f y fs).1
  .refine(z3C f y fs).2 g (wi g λz=>t ?_)
   show(if g=f then some u else mA g)=none
   rw[wW q];exact z
theorem Inv.made(I:Inv X pins σ H s):Inv X pins σ (upd (upd H s.heap.objs.size (.own (s.heap.objs.size+1))) (s.heap.objs.size+1) (.ins C s.heap.objs.size []))
  {s with heap:=(s.heap.push PySem.W.emptyDict).push (PySem.W.instObj C s.heap.objs.size)}:=by
 have c:(s.heap.push PySem.W.emptyDict).get? s.heap.objs.size=some PySem.W.emptyDict:=qh s.heap rfl;have i:((s.heap.push PySem.W.emptyDict).push (PySem.W.instObj C s.heap.objs.size)).get? (s.heap.objs.size+1)=some (PySem.W.instObj C s.heap.objs.size):=by
  have:=qh (s.heap.push PySem.W.emptyDict) (o:=PySem.W.instObj C s.heap.objs.size) rfl
  rwa [Qo]at this
 have h:(s.heap.push PySem.W.emptyDict).Ns s.heap.objs.size (λv=>none):=(PySem.W.emptyDict,#[],_,c,rfl,(λe he=>absurd he (by simp)),λv=>rfl);have d:=I.laid (a:=s.heap.objs.size) (o:= .own (s.heap.objs.size+1)) (h':=s.heap.push PySem.W.emptyDict) (t':=s.toks) (λb u q=>wu _ q) (wA _) (_,c);refine d.laid (a:=s.heap.objs.size+1) (o:= .ins C s.heap.objs.size []) (t':=s.toks) (λb u q=>wu _ q) (Nat.le_of_eq (Qo _ _)) ?_;have ne:s.heap.objs.size≠s.heap.objs.size+1:=qc (w0E _);refine(by rw[zj ne,zh],qU _,ne,i,λv=>none,(Heap.Ns1.of_empty h).at λo q=>wu _ q,λv=>w0e,λy f=>absurd rfl f)
theorem zdK{env:Env}{pos:Pos}(a:attributeBase e f env (eval e env)=eval e env)
  (h:wpAny (model prog w) A (eval e env) (λo b=>wpAny (model prog w) A (getAttr o f true) Q E b) E s):wpAny (model prog w) A (eval (.Attribute e f pos) env) Q E s:=
 Attribute_any_ h (by rw[arm_eval_Attribute,a])
end
def zgt(K:W.Frag)(ta:TE)(f:Str):TE:=λσ H Q=>ta σ H λx H1=>∃a C dx fs v,x= .ref a/\H1 a=some (.ins C dx fs)/\Cls K C/\NoAttr K C f/\fs.lookup f=some v/\Q v H1
def zeO(K:W.Frag)(ta tv:TE)(f:Str):TS:=λD σ H=>tv σ H λy H1=>ta σ H1 λx H2=>∃a C dx fs,x= .ref a/\H2 a=some (.ins C dx fs)/\Cls K C/\NoAttr K C f/\fs.length<1000/\
 D.nx σ (upd H2 a (.ins C dx (yT f y fs)))
section
variable{o value:Expr}{f:Str}{pos pos' oX:Pos}{tv:TE}
theorem zA(he:PE X e ta)(j:attributeBase e f X.env (eval e X.env)=eval e X.env):PE X (.Attribute e f pos) (zgt X.K ta f):=by
 intro pins s σ H Q I h;refine zdK j (thn (he pins s σ H _ I h) ?_);rintro u s1 ⟨x,H1,d,b,a,C,dx,fs,v,ex,p,c,n,l,q⟩;subst ex;obtain rfl:u=Value.ref a:=b;exact z8F d p c n l λr s2 o i=>(v,H1,o,i,q)
theorem z0I(ha:PE X o ta)(p:PE X value tv)(hs:swapsWith value (some (.Attribute o f pos')) pos.line X.env=pure false):PS X (.Assign [.Attribute o f pos'] value pos) (zeO X.K ta tv f):=by
 intro pins s σ H D I h;refine plainObj_wpAny_Assign_Attribute (thn (p pins s σ H _ I h) ?_) hs;rintro u s1 ⟨y,H1,i,j,q⟩;refine thn (ha pins s1 σ H1 _ i q) ?_;rintro e s2 ⟨x,H2,r,b,a,C,dx,fs,ex,t,c,n,l,w⟩;subst ex;obtain rfl:e=Value.ref a:=b;exact z99 r t c n l j λz d=>(σ,_,d,w)
end
section
variable{σ:St}{c:Value}{b:Bool}
inductive TyOf (K:W.Frag) (H:Hp):V->Value->Prop where
 | non:TyOf K H .non (.type "NoneType")
 | bl (x:Bool):TyOf K H (.bl x) (.type "bool")
 | int (i:Int):TyOf K H (.int i) (.type "int")
 | str (x:Str):TyOf K H (.str x) (.type "str")
 | flt (x:UInt64):TyOf K H (.flt x) (.type "float")
 | lst {a:Addr} {xs:List V} (e:H a=some (.lst xs)):TyOf K H (.ref a) (.type "list")
 | frz {a:Addr} {o:Obj} {xs:List V} (e:H a=some (.frz o (.lst xs))):TyOf K H (.ref a) (.type "list")
 | tup {a:Addr} {xs:List V} (e:H a=some (.tup xs)):TyOf K H (.ref a) (.type "tuple")
 | dK {a:Addr} {kvs:List (Key×V)} (e:H a=some (.dK kvs)):TyOf K H (.ref a) (.type "dict")
 | dT {a:Addr} {kvs:List (List Key×V)} (e:H a=some (.dT kvs)):TyOf K H (.ref a) (.type "dict")
 | ins {a C dx:Addr} {fs:List (Str×V)} (e:H a=some (.ins C dx fs)) (cl:Cls K C) (ha:PySem.W.findIn K (.ref C) "__class__"=some (some (.builtin "object.__class__")))
   (hn:PySem.W.specialIn K (.builtin "object.__class__") "__get__"=some (some (.builtin "getset_descriptor.__get__"))) (tX:PySem.W.takesIn K (.builtin "object.__class__")=some true)
   (hm:PySem.W.mroIn K C (.type "object")=some true):TyOf K H (.ref a) (.ref C)
theorem zak{x:V}{t:Value}(I:Inv X pins σ H s)(d:RelV x u)(ty:TyOf X.K H x t)(e:PySem.W.kitOne X.K t c=some b)(h:∀tk,Q (.bool b) {s with toks:=tk}):
  wpAny (model X.prog X.w) A (call (.builtin "isinstance") [u,c]) Q E s:=by
 cases ty with
 | non=>cases (show u=Value.none from d);exact QM PySem.W.kitx_none I.kIn w0e e (λz=>nomatch z) h
 | bl y=>cases (show u=Value.bool y from d);exact QM PySem.W.kitx_bool I.kIn w0e e (λz=>nomatch z) h
 | int i=>obtain⟨t,q⟩:=(show∃t,u=Value.int i t from d);cases q;exact QM PySem.W.kitx_int I.kIn w0e e (λz=>nomatch z) h
 | str y=>obtain⟨t,q⟩:=(show∃t,u=Value.str y t from d);cases q;exact QM PySem.W.kitx_str I.kIn w0e e (λz=>nomatch z) h
 | flt y=>obtain⟨t,q⟩:=(show∃t,u=Value.float y t from d);cases q;exact QM PySem.W.kitx_float I.kIn w0e e (λz=>nomatch z) h
 | @lst a xs f=>
  cases (show u=Value.ref a from d);obtain⟨_,_,n,_,h1⟩:=(show jk X.prog X.w H s.heap a (.lst xs)from I.hok a _ f);exact QM PySem.W.kitx_list I.kIn (_,h1,rfl) e (λz=>nomatch z) h
 | @frz a j xs f=>
  cases (show u=Value.ref a from d);obtain⟨_,_,_,n,_,h1⟩:=(show jk X.prog X.w H s.heap a (.frz j (.lst xs))from I.hok a _ f);exact QM PySem.W.kitx_list I.kIn (_,h1,rfl) e (λz=>nomatch z) h
 | @tup a xs f=>
  cases (show u=Value.ref a from d);obtain⟨_,_,_,p⟩:=(show jk X.prog X.w H s.heap a (.tup xs)from I.hok a _ f);obtain⟨o,h1,h2,_⟩:=p;exact QM PySem.W.kitx_tuple I.kIn (o,h1,h2) e (λz=>nomatch z) h
 | @dK a kvs f=>
  cases (show u=Value.ref a from d);obtain⟨_,_,vs,_,p⟩:=(show jk X.prog X.w H s.heap a (.dK kvs)from I.hok a _ f);obtain⟨o,es,ep,h1,h2,_⟩:=p;exact QM PySem.W.kitx_dict I.kIn (o,h1,h2.1) e (λz=>nomatch z) h
 | @dT a kvs f=>
  cases (show u=Value.ref a from d);obtain⟨_,_,xs,_,o,es,ep,h1,h2,_⟩:=(show jk X.prog X.w H s.heap a (.dT kvs)from I.hok a _ f);exact QM PySem.W.kitx_dict I.kIn (o,h1,h2.1) e (λz=>nomatch z) h
 | @ins a C dx fs f cl ha hn tX hm=>
  cases (show u=Value.ref a from d);obtain⟨mA,O,_⟩:=z4s I.hok f;obtain⟨od,J,_⟩:=O.look;exact QM (PySem.W.kitx_own (cl.get _) cl.hd ha hn tX hm) I.kIn J e (λz=>nomatch z) h
end
structure Room(k:Nat)(A:Around):Prop where
 hd:A.handled=none
 dp:A.depth+3*k+5<recursionLimit
 un:A.units+16*k+200<cLine
theorem Room.mono{j k:Nat}(r:Room k A)(h:j<=k):Room j A:=(r.hd,by have:=r.dp;lia,by have:=r.un;lia)
theorem Room.deeper{k:Nat}(r:Room (k+1) A)(env:Env):Room k (A.deeper env):=
 (r.hd,by have:=r.dp;show A.depth+1+3*k+5<_;lia,by have:=r.un;show A.units+3+16*k+200<_;lia)
theorem z8E:(A.under (.builtin "type.__call__" (.ref C::us,kw))).depth=A.depth+1:=by
 first|rfl|simp[Around.under,Code.weight,Code.isCreation,Code.isGuard,Code.isCaller,Code.frames,Code.isFrame,guardIds]
theorem z8k:(A.under (.builtin "type.__call__" (.ref C::us,kw))).units=A.units+1:=by
 first|rfl|simp[Around.under,Code.cUnits,Code.frames,Code.isFrame]
theorem Room.make{k:Nat}(r:Room (k+1) A)(C:Addr)(us:List Value)(kw:List (Str×Value)):Room k (A.under (.builtin "type.__call__" (.ref C::us,kw))):=
 (r.hd,by have:=r.dp;rw[z8E];lia,by have:=r.un;rw[z8k];lia)
theorem Room.depth{k:Nat}(r:Room k A):A.depth<recursionLimit:=by have:=r.dp;lia
theorem Room.units{k:Nat}(r:Room k A):A.units+64<cLine:=by have:=r.un;lia
def zfg:TA:=λv H Q=>Q [] H
def z20(ta:TE)(tr:TA):TA:=λσ H Q=>ta σ H λx H1=>tr σ H1 λxs H2=>Q (x::xs) H2
variable{t:TA}
section
variable{pos:Pos}
def zb:PA X [] zfg:=λv v v v H Q I h=>w0v ([],H,I,.nil,h)
theorem zP(ha:PE X e te)(hr:PA X es t)(hs:(starEach (e::es) X.env=(false,eval e X.env)::starEach es X.env)⁻¹):PA X (e::es) (z20 te t):=by
 intro pos pins s σ H Q I h;rw[hs]
 show wpAny _ _ (spliced ((false,eval e X.env)::backTo pos (starEach es X.env))) _ _ s
 refine Qv (thn (ha pins s σ H _ I h) ?_);rintro u s1 ⟨x,H1,a,r1,q1⟩;exact thn (hr pos pins s1 σ H1 _ a q1) λus s2 ⟨xs,H2,b,r2,c⟩=>(x::xs,H2,b,.cons r1 r2,c)
def zgV(t:TA):TE:=λσ H Q=>t σ H λxs H1=>xs.length<=sizeLine/\∀p,H1 p=none->Q (.ref p) (upd H1 p (.tup xs))
def zgT(t:TA):TE:=λσ H Q=>t σ H λxs H1=>xs.length<=sizeLine/\∀p,H1 p=none->Q (.ref p) (upd H1 p (.lst xs))
theorem zD{x1}(h:PA X es t):PE X (.Tuple es x1 pos) (zgV t):=by
 intro pins s σ H Q I hq;refine wpAny_Tuple_spliced (thn (h pos pins s σ H _ I hq) ?_);rintro us s1 ⟨xs,H1,a,r,z,q⟩;refine(by rw[<-r.length];exact z,?_);have c:H1 s1.heap.objs.size=none:=a.hok.fresh (wA _);refine(.ref s1.heap.objs.size,upd H1 s1.heap.objs.size (.tup xs),a.laid (t':=s1.toks) (λb u e=>wu _ e) (wA _) ?_,rfl,q _ c);exact(z,us,r,(_,qh _ rfl,rfl,_,rfl))
theorem zC(h:PA X es t):PE X (.List es pos) (zgT t):=by
 intro pins s σ H Q I hq;refine wpAny_List_spliced (thn (h pos pins s σ H _ I hq) ?_);rintro us s1 ⟨xs,H1,a,r,z,q⟩;refine(by rw[<-r.length];exact z,?_);have c:H1 s1.heap.objs.size=none:=a.hok.fresh (wA _);refine(.ref s1.heap.objs.size,upd H1 s1.heap.objs.size (.lst xs),a.laid (t':=s1.toks) (λb u e=>wu _ e) (wA _) ?_,rfl,q _ c);exact(z,us,0,r,qh _ rfl)
end
abbrev Sp:=List V->Hp->VK->XK->Prop
abbrev CXT:=List Env->Hp->Shared->XK->Value->Shared->Prop
structure Env0(P:Program)(w:World)(K:W.Frag)(mg:Str->Option Value)(base:Heap)(A:Around)(outer:List Env)(s:Shared)(H:Hp):Prop where
 frames:A.frames=some outer
 mod:Mod K mg base
 bs:∀b o,base.get? b=some o->s.heap.get? b=some o/\H b=none
 bsz:base.objs.size<=s.heap.objs.size
 funs:s.heap.FunFrames base outer
 frf:∀b∈frs outer,H b=none
 hok:HOk P w H s.heap
 bare:AllBare s.gens
def CE(outer:List Env)(P:Program)(w:World)(H:Hp)(s:Shared)(Q:VK)(u:Value)(s':Shared):Prop:=
 ∃v H',s'.os=s.os/\AllBare s'.gens/\Un (frs outer) [] H H' s.heap s'.heap/\HOk P w H' s'.heap/\RelV v u/\Q v H'
def CR(CX:CXT)(outer:List Env)(P:Program)(w:World)(H:Hp)(s:Shared)(Q:VK)(E:XK)(r:Result)(s':Shared):Prop:=
 match r with
 | .ok (.ret u)=>CE outer P w H s Q u s'
 | .ok _=>False
 | .error e=>CX outer H s E e s'
structure FnOk(P:Program)(w:World)(K:W.Frag)(mg:Str->Option Value)(base:Heap)(CX:CXT)(k:Nat)(f:Addr)(fd:FuncData)(ps:List Str)(sp:Sp):Prop where
 len:∀vs H Q E,sp vs H Q E->vs.length=ps.length
 run:∀(A:Around) (outer:List Env) (s:Shared) (H:Hp) (args:Args) (us:List Value) (vs:List V) (Q:VK) (E:XK),Room k A->Env0 P w K mg base A outer s H->BindsTo s fd args (ps.zip us)->zM vs us->sp vs H Q E->
  codeAny (model P w) A (.call (.ref f) args) (CR CX outer P w H s Q E) s
variable{mg:Str->Option Value}{base:Heap}{outer:List Env}
theorem Env0.make(e:Env0 P w K mg base A outer s H)(C:Addr)(us:List Value)(kw:List (Str×Value)):
  Env0 P w K mg base (A.under (.builtin "type.__call__" (.ref C::us,kw))) outer s H:=(by first|exact e.frames|(simpa [Around.under,Code.envs,Code.isFrame,pushEnvs]using e.frames),e.mod,e.bs,e.bsz,e.funs,e.frf,e.hok,e.bare)
section
variable{σ:St}
def Inv.env0(I:Inv X pins σ H s):Env0 X.prog X.w X.K X.mg X.base X.A X.stack s H:=
 (I.ok.frames,I.ok.mod,I.bs,wY I.ok.bsz I.sz,I.stack,I.stkFree,I.hok,I.bare)
theorem Inv.after{Q:VK}(I:Inv X pins σ H s)(h:CE X.stack X.prog X.w H s Q u s'):EP X pins σ Q u s':=by
 obtain⟨v,H',os,bare,un,hok,r,q⟩:=h;obtain⟨a,g,d,t,c⟩:=s';obtain rfl:c=s.os:=os;exact(v,H',I.call (h':=a) (g':=g) (d':=d) (t':=t) (ch:= []) un hok bare (λb z=>absurd z (by simp)),r,q)
end
def zcI(sp:Sp)(bw:List V)(E:XK)(t:TA):TE:=λσ H Q=>t σ H λvs H1=>sp (vs++bw) H1 Q E
def z9s(C:Addr)(m:Str)(sp:Sp)(bw:List V)(E:XK)(ta:TE)(t:TA):TE:=λσ H Q=>ta σ H λx H1=>∃a dx fs,x= .ref a/\H1 a=some (.ins C dx fs)/\fs.lookup m=none/\
 t σ H1 λvs H2=>sp (x::(vs++bw)) H2 Q E
def zex(C:Addr)(sp:Sp)(bw:List V)(E:XK)(t:TA):TE:=λσ H Q=>t σ H λvs H1=>∀x dx,H1 x=none->H1 dx=none->dx≠x->
 sp (.ref x::(vs++bw)) (upd (upd H1 dx (.own x)) x (.ins C dx [])) (λv H2=>v= .non/\Q (.ref x) H2) E
def Binds(K:W.Frag)(fd:FuncData)(ps:List Str)(ds:List Value):Prop:=
 ∀(s:Shared) (us:List Value),K.In s.heap->(us++ds).length=ps.length->BindsTo s fd (us,[]) (ps.zip (us++ds))
variable{fd:FuncData}{ps:List Str}
theorem Binds.all(h:∀us:List Value,us.length=ps.length->bindArgs fd (us,[])=pure (ps.zip us)):Binds K fd ps []:=λs us v hl=>by
 rw[Q3]at hl ⊢;exact .of_eq (h us hl)
def z1t(CX:CXT)(X:Cx)(E:XK):Prop:=∀(pins:List (Addr×Obj)) (σ:St) (H:Hp) (s:Shared) (e:Value) (s':Shared),Inv X pins σ H s->CX X.stack H s E e s'->X.xe e s'
variable{vs:List V}{CX:CXT}{sp:Sp}
section
variable{k:Nat}{f:Addr}{bw:List V}{ds:List Value}{E:XK}{m:Str}{pos apos:Pos}{o:Expr}
theorem z8D{Q:VK}(F:FnOk X.prog X.w X.K X.mg X.base CX k f fd ps sp)(hr:Room k X.A)(b:Binds X.K fd ps ds)(hd:zM bw ds)(c:z1t CX X E)
  (I:Inv X pins σ H s) (r:zM vs us) (h:sp (vs++bw) H Q E):wpAny (model X.prog X.w) X.A (call (.ref f) us) (EP X pins σ Q) X.xe s:=by
 have r2:zM (vs++bw) (us++ds):=r.append hd;have hl:(us++ds).length=ps.length:=by rw[<-r2.length];exact F.len _ _ _ _ h
 refine w1Q (w0n (F.run X.A X.stack s H (us,[]) (us++ds) (vs++bw) Q E hr I.env0 (b s us I.kIn hl) r2 h) λr s' hq=>?_);cases r with
 | error e=>exact c pins σ H s e s' I hq
 | ok a=>
  cases a with
  | ret u=>exact I.after hq
  | next=>exact False.elim hq
  | brk=>exact False.elim hq
  | cont=>exact False.elim hq
theorem zdD(F:FnOk X.prog X.w X.K X.mg X.base CX k f fd ps sp)(hr:Room k X.A)(j:Gl X x)(hm:X.mg x=some (.ref f))(d:PySem.W.keepIn X.K (.ref f)=true)(i:Binds X.K fd ps ds)(hd:zM bw ds)(b:z1t CX X E)
  (ha:PA X (e::es) t) (l: ~~~((x == ("__debug__":Str))=false)) (he:(starEach (e::es) X.env=(false,eval e X.env)::starEach es X.env)⁻¹) (c:((backTo pos (starEach es X.env)).any (·.1)=false)⁻¹):
  PE X (.Call (.Name x p) (e::es) [] pos) (zcI sp bw E t):=by
 intro pins s σ H Q I h;refine Qw (z3v I j hm ?_ l);refine w1b (h₀:=X.base) I.ok.mod.kin d (thn (ha pos pins s σ H _ I h) ?_) he c;rintro us s1 ⟨vs,H1,a,r,q⟩;refine(a.kIn,?_);exact z8D F hr i hd b a r q
theorem zdO{pl:Sem Bool}(he:PE X o ta)(c:Cls X.K C)(hm:Meth X.K C m f)(F:FnOk X.prog X.w X.K X.mg X.base CX k f fd ps sp)(hr:Room k X.A)(z:Binds X.K fd ps ds)(hd:zM bw ds)(j:z1t CX X E)(ha:PA X (e::es) t)
  (p:(starEach (e::es) X.env=(false,eval e X.env)::starEach es X.env)⁻¹) (y:((backTo pos (starEach es X.env)).any (·.1)=false)⁻¹)
  (ht:eval (.Call (.Attribute o m apos) (e::es) [] pos) X.env=(do
   let b<-eval o X.env
   standAt apos.atName
   let (f,first)<-holding [b] (getMethod b m pl)
   callWith pos f first (backTo pos (starEach (e::es) X.env)) (backToKw pos (keywordEach [] X.env))):=by rfl):
  PE X (.Call (.Attribute o m apos) (e::es) [] pos) (z9s C m sp bw E ta t):=by
 intro pins s σ H Q I h;refine PySem.W.methodCall_KW (pl:=pl) (thn (he pins s σ H _ I h) ?_) ht;rintro u s1 ⟨x,H1,d,n,a,dx,fs,ex,B,l,q⟩;subst ex;obtain rfl:u=Value.ref a:=n;refine z2T d B c hm l ?_;refine w1b (first:= [.ref a]) (h₀:=X.base) I.ok.mod.kin hm.kp (thn (ha pos pins s1 σ H1 _ d q) ?_) p y;rintro us s2 ⟨vs,H2,i,r,D⟩;refine(i.kIn,?_);exact z8D (us:= .ref a::us) (vs:= .ref a::vs) F hr z hd j i (.cons rfl r) D
theorem zca{pl:Sem Bool}(he:PE X o ta)(c:Cls X.K C)(hm:Meth X.K C m f)(F:FnOk X.prog X.w X.K X.mg X.base CX k f fd ps sp)(hr:Room k X.A)(j:Binds X.K fd ps ds)(hd:zM bw ds)(e:z1t CX X E)
  (ht:eval (.Call (.Attribute o m apos) [] [] pos) X.env=(do
   let d<-eval o X.env
   standAt apos.atName
   let (f,first)<-holding [d] (getMethod d m pl)
   callWith pos f first (backTo pos (starEach [] X.env)) (backToKw pos (keywordEach [] X.env))):=by rfl):
  PE X (.Call (.Attribute o m apos) [] [] pos) (z9s C m sp bw E ta zfg):=by
 intro pins s σ H Q I h;refine PySem.W.methodCall_KW (pl:=pl) (thn (he pins s σ H _ I h) ?_) ht;rintro u s1 ⟨x,H1,b,i,a,dx,fs,ex,n,l,q⟩;subst ex;obtain rfl:u=Value.ref a:=i;refine z2T b n c hm l ?_;exact PySem.W.callWith_K0 (first:= [.ref a]) b.kIn hm.kp (z8D (us:= [.ref a]) (vs:= [.ref a]) F hr j hd e b (.cons rfl .nil) q)
structure Mk(K:W.Frag)(C f:Addr):Prop where
 makes:PySem.W.makesIn K C=true
 init:PySem.W.findIn K (.ref C) "__init__"=some (some (.ref f))
 fn:PySem.W.isFn K (.ref f)=true
 kp:PySem.W.keepIn K (.ref C)=true
theorem zbM{Q:VK}(M:Mk X.K C f)(F:FnOk X.prog X.w X.K X.mg X.base CX k f fd ps sp)(hr:Room (k+1) X.A)(l:Binds X.K fd ps ds)(hd:zM bw ds)
  (c:z1t CX X E) (I:Inv X pins σ H s) (r:zM vs us)
  (h:∀x dx,H x=none->H dx=none->dx≠x->sp (.ref x::(vs++bw)) (upd (upd H dx (.own x)) x (.ins C dx [])) (λv H2=>v= .non/\Q (.ref x) H2) E):
  wpAny (model X.prog X.w) X.A (call (.ref C) us) (EP X pins σ Q) X.xe s:=by
 have hq:=h (s.heap.objs.size+1) s.heap.objs.size (I.hok.fresh (Nat.le_succ _)) (I.hok.fresh (wA _)) (qc (w0E _));have b:=Inv.made (C:=C) I;have r2:zM (V.ref (s.heap.objs.size+1)::(vs++bw)) (Value.ref (s.heap.objs.size+1)::(us++ds)):= .cons rfl (r.append hd);have hl:(Value.ref (s.heap.objs.size+1)::us++ds).length=ps.length:=by
  have e:=r2.length;rw[F.len _ _ _ _ hq]at e;exact e.symm
 refine w1Q (zbh (f:=f) I.kIn M.makes M.init (QC.mp M.fn) (w0n (F.run _ X.stack _ _ (Value.ref (s.heap.objs.size+1)::us,[]) (Value.ref (s.heap.objs.size+1)::(us++ds)) _ _ E (hr.make C us [])
  (b.env0.make C us []) (l _ (Value.ref (s.heap.objs.size+1)::us) b.kIn hl) r2 hq) λr s' a=>?_))
 cases r with
 | error e=>exact c pins σ _ _ e s' b a
 | ok j=>
  cases j with
  | ret u=>
   obtain⟨v,H',d,i,ev,n⟩:=b.after a;subst ev;exact(i,(V.ref (s.heap.objs.size+1),H',d,rfl,n))
  | next=>exact False.elim a
  | brk=>exact False.elim a
  | cont=>exact False.elim a
theorem zdH(M:Mk X.K C f)(F:FnOk X.prog X.w X.K X.mg X.base CX k f fd ps sp)(hr:Room (k+1) X.A)(i:Gl X x)(hm:X.mg x=some (.ref C))(d:Binds X.K fd ps ds)(hd:zM bw ds)(b:z1t CX X E)
  (ha:PA X (e::es) t) (j: ~~~((x == ("__debug__":Str))=false)) (he:(starEach (e::es) X.env=(false,eval e X.env)::starEach es X.env)⁻¹) (c:((backTo pos (starEach es X.env)).any (·.1)=false)⁻¹):
  PE X (.Call (.Name x p) (e::es) [] pos) (zex C sp bw E t):=by
 intro pins s σ H Q I h;refine Qw (z3v I i hm ?_ j);refine w1b (h₀:=X.base) I.ok.mod.kin M.kp (thn (ha pos pins s σ H _ I h) ?_) he c;rintro us s1 ⟨vs,H1,a,r,q⟩;refine(a.kIn,?_);exact zbM M F hr d hd b a r q
end
section
variable{k:Nat}{f:Addr}{ks:List Str}{E:XK}{m:Str}{pos apos xy:Pos}{o:Expr}{ED:List Keyword}{tk:TA}{nm:Option Str}
structure KBinds(K:W.Frag)(fd:FuncData)(ps ks:List Str)(g:List Value->List Value->List Value)(gV:List V->List V->List V):Prop where
 to:∀(s:Shared) (us ws:List Value),K.In s.heap->(g us ws).length=ps.length->BindsTo s fd (us,ks.zip ws) (ps.zip (g us ws))
 rel:∀{vs:List V} {us:List Value} {zs:List V} {ws:List Value},zM vs us->zM zs ws->zM (gV vs zs) (g us ws)
variable{g:List Value->List Value->List Value}{gV:List V->List V->List V}
end
structure FnScope(N P:List Str)(sc:Scope):Prop where
 kind:sc.kind= .function
 co:sc.isCoroutine=false
 gen:sc.isGenerator=false
 nd:N.Nodup
 pre:N.take P.length=P
 par:∀x∈P,sc.names.lookup x=some .local\/sc.names.lookup x=some .cell
 nofree:∀y∈sc.names,y.2≠ .free
theorem z5O{kindOf:Str->Option NameKind}{x:Str}:∀{binds:List (Str×Value)} {m:Str->Option Value},(∀v,(x,v)∉binds)->bindL kindOf binds m x=m x
 | [],_,_=>rfl
 | (n,v)::r,m,h=>by
  unfold bindL;rw[z5O λw a=>h w (wZ _ a)];split
  .have:x≠n:=by rintro rfl;exact h v qy
   simp[this]
  .rfl
theorem z5V{kindOf:Str->Option NameKind}{x:Str}:∀{binds:List (Str×Value)} {m:Str->Option Value},(∀v,(x,v)∉binds)->bindC kindOf binds m x=m x
 | [],_,_=>rfl
 | (n,v)::r,m,h=>by
  unfold bindC;rw[z5V λw a=>h w (wZ _ a)];split
  .rfl
  .have:x≠n:=by rintro rfl;exact h v qy
   simp[this]
theorem z5P{kindOf:Str->Option NameKind}{x:Str}{v:Value}:∀{P:List Str} {vs:List Value} {i:Nat} {m:Str->Option Value},P.Nodup->P[i]? =some x->vs[i]? =some v->kindOf x=some .local->
  bindL kindOf (P.zip vs) m x=some v
 | [],_,_,_,_,h,_,_=>by simp at h
 | _::_,[],_,_,_,_,h,_=>by simp at h
 | p::P,w::vs,0,m,nd,h1,h2,a=>by
  simp at h1 h2;subst h1;subst h2
  show bindL kindOf ((p,w)::P.zip vs) m p=_
  unfold bindL;rw[z5O λv b=>(w0a.mp nd).1 (List.of_mem_zip b).1,qd a];simp
 | p::P,w::vs,i+1,m,nd,h1,h2,a=>by
  show bindL kindOf ((p,w)::P.zip vs) m x=_
  unfold bindL;exact z5P (i:=i) (w0a.mp nd).2 (by simpa using h1) (by simpa using h2) a
theorem z6j{kindOf:Str->Option NameKind}{x:Str}{v:Value}:∀{P:List Str} {vs:List Value} {i:Nat} {m:Str->Option Value},P.Nodup->P[i]? =some x->vs[i]? =some v->kindOf x≠some .local->
  bindC kindOf (P.zip vs) m x=some v
 | [],_,_,_,_,h,_,_=>by simp at h
 | _::_,[],_,_,_,_,h,_=>by simp at h
 | p::P,w::vs,0,m,nd,h1,h2,a=>by
  simp at h1 h2;subst h1;subst h2
  show bindC kindOf ((p,w)::P.zip vs) m p=_
  unfold bindC;rw[z5V λv b=>(w0a.mp nd).1 (List.of_mem_zip b).1,wW a];simp
 | p::P,w::vs,i+1,m,nd,h1,h2,a=>by
  show bindC kindOf ((p,w)::P.zip vs) m x=_
  unfold bindC;exact z6j (i:=i) (w0a.mp nd).2 (by simpa using h1) (by simpa using h2) a
noncomputable def start(N:List Str)(vs:List V):St:=vs.map some++List.replicate (N.length-vs.length) none
noncomputable def z3k(CX:CXT)(P:Program)(w:World)(K:W.Frag)(mg:Str->Option Value)(base:Heap)(N:List Str)(qual:Str)(scope:Scope)(f:Addr)(cd:Value)(A:Around)(outer:List Env)(s:Shared)(H:Hp)(E:XK):Cx where
 prog:=P
 w:=w
 K:=K
 mg:=mg
 base:=base
 A:=A.deeper (envOfC qual scope s.heap.objs.size f cd)
 N:=N
 s₀:=s
 H₀:=H
 env:=envOfC qual scope s.heap.objs.size f cd
 outer:=outer
 stack:=envOfC qual scope s.heap.objs.size f cd::outer
 ex:= []
 calm:=true
 fn:=λv=>true
 pn:= []
 xe:=λe s'=>wpAny (model P w) (A.deeper (envOfC qual scope s.heap.objs.size f cd)) (leaving (envOfC qual scope s.heap.objs.size f cd) e) (λv a=>CX outer H s E e a) (λb a=>CX outer H s E b a) s'
theorem z7x{sc:Scope}(h:sc.names.lookup x=some .cell):∃c,(cellsFrom n sc.names []).lookup x=some c:=by
 have q:=PySem.W.cellsFrom_some sc.names n [] (.inl h);exact Option.isSome_iff_exists.mp q
variable{scope:Scope}
theorem z6g{qual:Str}{f:Addr}{cd:Value}{s1:Shared}{E:XK}
  (S:FnScope N ps scope) (hd:A.handled=none) (d:Env0 P w K mg base A outer s H) (hl:vs.length=ps.length) (r:zM vs us)
  (x:InCallC s s.heap.objs.size (bindL (envOfC qual scope s.heap.objs.size f cd).kindOf (ps.zip us) λm=>none) (cellsFrom (s.heap.objs.size+1) scope.names []) (bindC (envOfC qual scope s.heap.objs.size f cd).kindOf (ps.zip us) λm=>none) s1):
  Inv (z3k CX P w K mg base N qual scope f cd A outer s H E) [] (start N vs) H s1:=by
 have D:ps.length<=N.length:=by have:=Qd List.length S.pre;rw[wV]at this;lia
 obtain⟨h1,tk,rfl,t⟩:=x.done;have j:∀b:Addr,b∉(z3k CX P w K mg base N qual scope f cd A outer s H E).ex:=λb z=>absurd (show b∈([]:List Addr)from z) (by simp)
 refine((d.mod,S.kind,rfl,rfl,wA _,λy z c h1 h2=>?_,λy hy=>?_,λy c m h=>?_,λm=>hd,Around.frames_deeper d.frames,.inr (rfl,rfl),λb z=>absurd z (j b),d.bs,d.bsz,λb m m=>j b,λb z=>absurd z (j b),d.funs,d.frf),
  rfl,d.bare,Un.kept t,(_,x.toInCall.ns,λi y v h1 h2 C=>?_),λy c h=>(_,x.cell y c h),d.hok.fresh (wA _),λy c h=>?_,λp hp=>absurd (show p∈([]:List (Addr×Obj))from hp) (by simp),d.hok.kept t,?_)
 .exact name_of_addr x.apart (Q2 h1) (Q2 h2)
 .have hy:scope.names.lookup y=some .cell\/scope.names.lookup y=some .free:=hy;rcases hy with hy|hy
  .exact z7x hy
  .exact absurd rfl (S.nofree _ (Q2 hy))
 .exact w1D (x.above y c (Q2 h))
 .have hi:i<vs.length:=by
   unfold start at h2;by_cases hi:i<vs.length
   .exact hi
   .rw [qW (by simpa using hi)]at h2;rw[List.getElem?_replicate]at h2;split at h2<;>cases h2
  have ha:vs[i]? =some v:=by
   unfold start at h2;rw[qY (by simpa using hi),wM]at h2;cases e:vs[i]? with
   | none=>rw[e]at h2;cases h2
   | some a=>rw[e]at h2;cases h2;rfl
  obtain⟨u,o,B⟩:=r.get ha;have hp:ps[i]? =some y:=by
   rw[<-S.pre,List.getElem?_take_of_lt (by lia)];exact h1
  have l:ps.Nodup:=by rw[<-S.pre];exact S.nd.sublist (List.take_sublist _ _)
  refine(u,B,?_);rcases S.par y (qN hp)with k|k
  .exact .inl (k,z5P l hp o k)
  .obtain⟨c,e⟩:=z7x (n:=s.heap.objs.size+1) k;refine .inr (.inl k,c,e,?_);have q:=x.cell y c e;rw[z6j l hp o (by show scope.names.lookup y≠_;rw[k];decide)]at q;exact q
 .exact d.hok.fresh (w1D (x.above y c (Q2 h)))
 .unfold start
  show _=N.length
  rw[wm,w9,w0H]
  lia
theorem zez{k:Nat}{f:Addr}{name qual:Str}{params:Arguments}{d kV aQ pm aa ct oc:Value}{an od:Option Addr}
  {cK:Array (Option Value)}   (B:K.lookup f=some (oc,od,.func (PySem.W.fnOf name qual params body scope d kV aQ pm an aa ct),cK)) (F:PySem.W.codeIn K aa qual=true) (S:FnScope N ps scope)
  (len:∀vs H Q E,sp vs H Q E->vs.length=ps.length)
  (l:∀(A:Around) (outer:List Env) (s:Shared) (H:Hp) (vs:List V) (Q:VK) (E:XK),Room k (A.deeper (envOfC qual scope s.heap.objs.size f aa))->sp vs H Q E->
   ∃t,PSs (z3k CX P w K mg base N qual scope f aa A outer s H E) body t/\t {nx:=λm H'=>Q .non H',rt:=Q} (start N vs) H):
  FnOk P w K mg base CX (k+1) f (PySem.W.fnOf name qual params body scope d kV aQ pm an aa ct) ps sp:=by
 refine(len,λA outer s H args us vs Q E hr a z r h=>?_);have hl:=len _ _ _ _ h;have i:K.In s.heap:=a.mod.kin.keeps λb o e=>(a.bs b o e).1
 have C:s.heap.NoLimit:=a.mod.nolimit.keeps λb o e=>(a.bs b o e).1
 have D:∀y∈ps.zip us,scope.names.lookup y.1=some .local\/(scope.names.lookup y.1=some .cell/\((cellsFrom (s.heap.objs.size+1) scope.names []).lookup y.1).isSome=true):=λ⟨n,v⟩ j=>by
  rcases S.par n (List.of_mem_zip j).1 with q|q
  .exact .inl q
  .exact .inr (q,PySem.W.cellsFrom_some _ _ _ (.inl q))
 refine codeAny_call_function hr.depth (i _ _ B) rfl S.co S.gen rfl (PySem.W.codeRec_of i F) (z _ _ _ _ ?_);refine wpAny_newFunctionEnv_cells S.kind D λenv he s1 x=>?_
 subst he;refine(C.keeps x.toInCall.keep,codeAny_func ?_);obtain⟨t,ht,hq⟩:=l A outer s H vs Q E (hr.deeper _) h;have I:Inv (z3k CX P w K mg base N qual scope f aa A outer s H E) [] (start N vs) H s1:=z6g S hr.hd a hl r x;refine Qa (ht [] s1 (start N vs) H _ I hq) (λp s' hs=>?_) λe s' hs=>hs
 have fin:∀{σ':St} {H':Hp} {v:V} {u:Value},Inv (z3k CX P w K mg base N qual scope f aa A outer s H E) [] σ' H' s'->RelV v u->Q v H'->CE outer P w H s Q u s':=
  λ{σ' H' v u} J c q=>(v,H',J.os,J.bare,J.base,J.hok,c,q)
 cases p with
 | ret u=>
  obtain⟨v,σ',H',J,c,q⟩:=hs;exact fin J c q
 | next=>
  obtain⟨σ',H',J,q⟩:=hs;exact fin (v:=V.non) (u:=Value.none) J rfl q
 | brk=>
  obtain⟨_,_,_,q⟩:=hs;exact False.elim q
 | cont=>
  obtain⟨_,_,_,q⟩:=hs;exact False.elim q
section
variable{pos:Pos}{id T:String}{r:List V->Hp->VK->Prop}
def tCB(r:List V->Hp->VK->Prop)(t:TA):TE:=λσ H Q=>t σ H λvs H1=>r vs H1 Q
theorem zF(hc:ki X (.builtin id) r)(c:Gl X x)(hm:X.mg x=none)(d:bootBuiltins x=some (.builtin id))(ha:PA X (e::es) t)(hn: ~~~(x≠"__name__"))(f: ~~~((x == ("__debug__":Str))=false))
  (he:(starEach (e::es) X.env=(false,eval e X.env)::starEach es X.env)⁻¹) (b:((backTo pos (starEach es X.env)).any (·.1)=false)⁻¹):PE X (.Call (.Name x p) (e::es) [] pos) (tCB r t):=by
 intro pins s σ H Q I h;refine Qw (z1d I c hm d ?_ hn f);exact PyProof.Rows.callWith_builtin1 (thn (ha pos pins s σ H _ I h) λus s1 ⟨vs,H1,a,r1,q1⟩=>hc pins s1 σ H1 vs us Q a r1 q1) he b
theorem jj(hc:ki X (.type T) r)(c:Gl X x)(hm:X.mg x=none)(d:bootBuiltins x=some (.type T))(ha:PA X (e::es) t)(hn: ~~~(x≠"__name__"))(f: ~~~((x == ("__debug__":Str))=false))
  (he:(starEach (e::es) X.env=(false,eval e X.env)::starEach es X.env)⁻¹) (b:((backTo pos (starEach es X.env)).any (·.1)=false)⁻¹):PE X (.Call (.Name x p) (e::es) [] pos) (tCB r t):=by
 intro pins s σ H Q I h;refine Qw (z1d I c hm d ?_ hn f);exact Qk (thn (ha pos pins s σ H _ I h) λus s1 ⟨vs,H1,a,r1,q1⟩=>hc pins s1 σ H1 vs us Q a r1 q1) he b
end
end L2
namespace HT
open PySem PyProof.Rows
section
open PySem.SeqAt
open PySem.AutoSeq1 (wpAny_loadPart')
open PySem.MeetsSeq PySem.MeetsSeq2 PySem.MeetsSeq3
end
variable{Q:Value->Shared->Prop}
section
variable{prog:Program}{w:World}{A:Around}{E:Value->Shared->Prop}{s:Shared}
theorem cat_tup{t b:Addr}{vs ws:List Value}(ht:IsTup s.heap t vs.toArray)(p:IsTup s.heap b ws.toArray)(j:vs≠ [])
  (h1:ws= []->Q (.ref t) s) (h2:ws≠ []->Q (.ref s.heap.objs.size) {s with heap:=s.heap.push {cls:= .type "tuple",data:= .seq (vs++ws).toArray}})
  (hsz:vs.length+ws.length<=sizeLine):wpAny (model prog w) A (binaryOp .Add (.ref t) (.ref b)) Q E s:=by
 obtain⟨⟨cls,i,data,sl⟩,a,hc,n,hd⟩:=id ht;obtain⟨⟨q,o,data2,f⟩,c,d,h,l⟩:=id p;simp only at hc hd d l;subst hc hd d l;have e:vs.toArray++ws.toArray=(vs++ws).toArray:=by simp
 by_cases hw:ws= []
 .exact concat_meets (_,a,rfl) (_,c,rfl) noFill_tuple_add seq_tuple_add PySem.F.slot_tuple_add PySem.F.entry_tuple_add (PySem.F.args_tuple_add_2 _ _)
   (tuple_addW1 t b vs.toArray ws.toArray n h i o sl f (by simpa using j) (by simp[hw])) (a,c,h1 hw)
 .refine concat_meets (_,a,rfl) (_,c,rfl) noFill_tuple_add seq_tuple_add PySem.F.slot_tuple_add PySem.F.entry_tuple_add (PySem.F.args_tuple_add_2 _ _)
   (tuple_addW2 t b vs.toArray ws.toArray n h i o sl f (by simpa using j) (by simpa using hw) (by rw[wB,wB];exact hsz)) (a,c,?_)
  rw[e];exact h2 hw
noncomputable def sIx(n d:Nat):Option Int->Nat
 | none=>d
 | some v=>if v<0 then(v+(n:Int)).toNat else min v.toNat n
theorem sIx_none(n d:Nat):sIx n d none=d:=rfl
theorem zfo(n d:Nat)(hd:d<=n)(o:Option Int):sIx n d o<=n:=by
 cases o with
 | none=>exact hd
 | some v=>
  show(if v<0 then(v+(n:Int)).toNat else min v.toNat n)<=n
  by_cases hv:v<0
  .rw [qd hv];lia
  .rw [wW hv];exact Nat.min_le_right _ _
theorem za4(v:Int)(n d:Nat):(if v<0 then max (v+(n:Int)) 0 else min v (n:Int))=((sIx n d (some v):Nat):Int):=by
 show(if v<0 then max (v+(n:Int)) 0 else min v (n:Int))=(((if v<0 then(v+(n:Int)).toNat else min v.toNat n):Nat):Int)
 by_cases hv:v<0
 .simp only [qd hv];lia
 .simp only [wW hv];lia
theorem z98(lo hi:Option Int)(n:Nat):Builtin.Slice.sliceAdjust lo hi 1 (n:Int)=(((sIx n 0 lo:Nat):Int),((sIx n n hi:Nat):Int)):=by
 have h1:¬((1:Int)<0):=by lia
 unfold Builtin.Slice.sliceAdjust;simp only[h1,w0B];refine Prod.ext ?_ ?_
 .cases lo with
  | none=>rfl
  | some v=>exact za4 v n 0
 .cases hi with
  | none=>rfl
  | some v=>exact za4 v n n
theorem z8Z(i j:Nat):Builtin.Slice.slicePlaces (i:Int) (j:Int) 1=j-i:=by
 unfold Builtin.Slice.slicePlaces;have h1:(1:Int) > 0:=by lia
 simp only[h1,w1f,Int.ediv_one];split<;>lia
theorem z50{v:Value}{o:Option Int}{Q:Option Int->Shared->Prop}(p:IsPart v o)(h:Q o s):wpAny (model prog w) A (Builtin.Slice.slicePartIndex v) Q E s:=by
 cases p with
 | none=>exact slicePart_none h
 | int i t=>exact slicePart_int h
variable{lo hi:Option Int}
theorem sliceApplied_gen{sl:Addr}{c a:Value}{n:Nat}{Q:Int×Int×Nat->Shared->Prop}(hs:s.heap.IsSliceOf sl c a .none)(pl:IsPart c lo)(d:IsPart a hi)
  (h:Q (((sIx n 0 lo:Nat):Int),1,sIx n n hi-sIx n 0 lo) s):wpAny (model prog w) A (Builtin.Slice.sliceApplied (.ref sl) (pure (n:Int))) Q E s:=by
 obtain⟨os,b,e,hds⟩:=id hs;unfold Builtin.Slice.sliceApplied Builtin.Slice.sliceFields;refine wD (wD (wpAny_field b hds (x:=c) rfl (wD (wpAny_field b hds (x:=a) rfl (wD (wpAny_field b hds (x:= .none) rfl (q9 ?_)))))));refine wD (slicePart_none ?_)
 show wpAny _ _ (if((1:Int) == 0)=true then _ else _) _ _ s
 rw[wW (by decide)];refine wD (z50 pl (wD (z50 d (wD (q9 ?_)))))
 show wpAny _ _ (match Builtin.Slice.sliceAdjust lo hi 1 (n:Int)with|(lo,hi)=>pure (Prod.mk lo (Prod.mk (1:Int) (Builtin.Slice.slicePlaces lo hi 1)))) _ _ s
 rw[z98 lo hi n]
 show wpAny _ _ (pure (Prod.mk (((sIx n 0 lo:Nat):Int)) (Prod.mk (1:Int) (Builtin.Slice.slicePlaces ((sIx n 0 lo:Nat):Int) ((sIx n n hi:Nat):Int) 1)))) _ _ s
 rw[z8Z];exact q9 h
theorem zck(xs:Array Value)(i k:Nat):((List.range k).filterMap λ(m:Nat)=>xs[((i:Int)+(m:Int)*1).toNat]?).toArray=((xs.toList.drop i).take k).toArray:=by
 have e:(λ(m:Nat)=>xs[((i:Int)+(m:Int)*1).toNat]?)=λm=>xs[i+m]? :=by
  funext m
  have:((i:Int)+(m:Int)*1).toNat=i+m:=by lia
  rw[this]
 rw[e];have:=pick_run xs i k;rw[List.filterMap_map]at this;have a:((λx=>xs[x]?) ∘ λx=>i+x)=λm=>xs[i+m]? :=rfl
 rw[a]at this;rw[this]
theorem getItem_tuple_cut{t sl:Addr}{items:Array Value}{b c:Value}(ht:IsTup s.heap t items)(hs:s.heap.IsSliceOf sl b c .none)(pl:IsPart b lo)(i:IsPart c hi)
  (j:¬(sIx items.size 0 lo=0/\sIx items.size items.size hi=items.size))
  (h:Q (.ref s.heap.objs.size) {s with heap:=s.heap.push {cls:= .type "tuple",data:= .seq ((items.toList.drop (sIx items.size 0 lo)).take (sIx items.size items.size hi-sIx items.size 0 lo)).toArray}})
  (hsz:items.size<=sizeLine):wpAny (model prog w) A (getItem (.ref t) (.ref sl)) Q E s:=by
 have a:sizeOk (.seq ((items.toList.drop (sIx items.size 0 lo)).take (sIx items.size items.size hi-sIx items.size 0 lo)).toArray):=by
  show((items.toList.drop (sIx items.size 0 lo)).take (sIx items.size items.size hi-sIx items.size 0 lo)).toArray.size<=sizeLine
  rw[wB,wV,w15,w10]
  lia
 have n:sIx items.size items.size hi<=items.size:=zfo _ _ (wA _) hi;obtain⟨os,e,f,hds⟩:=id hs;have l:s.TypeIs (.ref sl) "slice":=(os,e,f);unfold getItem
 try with_reducible refine QO ?_
 first|refine wD (q9 ?_)|skip
 refine wD (wpAny_sequenceKey ht.typeIs (by decide) ?_);refine wD (wpAny_callSpecial?_slot (name:=Str.ofString "__getitem__") ht.typeIs Ql
  (wpAny_call_entry Ql ht.typeIs entry_tuple_getitem ?_ (args_tuple_getitem _ _)))
 show wpAny _ _ (Builtin.Tuple.tupleItemsOf (.ref t) >>= _) _ _ s
 refine wD (tupleItemsOf_ ht ?_);refine wD (wpAny_typeOf l ?_);rw[qd (by decide)];refine wD (sliceApplied_gen hs pl i ?_);have d:¬((((sIx items.size 0 lo:Nat):Int) == 0&&(1:Int) == 1&&(sIx items.size items.size hi-sIx items.size 0 lo) == items.size)=true):=by
  intro q;rw[Qb,Qb]at q;have q1:((sIx items.size 0 lo:Nat):Int)=0:=eq_of_beq q.1.1;have o:sIx items.size items.size hi-sIx items.size 0 lo=items.size:=eq_of_beq q.2;exact j (by lia,by lia)
 show wpAny _ _ (if(((sIx items.size 0 lo:Nat):Int) == 0&&(1:Int) == 1&&(sIx items.size items.size hi-sIx items.size 0 lo) == items.size)=true then _ else _) _ _ s
 rw[wW d,zck]
 first
  | exact wD (m:=Builtin.Tuple.tupleExact _) (w0S (q9 (_,rfl,q9 h)) a)
  | exact wD (m:=Builtin.Tuple.tupleExact _) (w0S (wD (q9 (q9 (_,rfl,q9 h)))) a)
  | exact wD (wD (m:=Builtin.Tuple.tupleExact _) (w0S (q9 (q9 (_,rfl,q9 h))) a))
  | exact wD (wD (m:=Builtin.Tuple.tupleExact _) (w0S (q9 (_,rfl,q9 h)) a))
end
end HT
namespace L2
open PySem PySem.Spec PyProof.Rows
abbrev TO:=St->Hp->(Option Int->Hp->Prop)->Prop
def PO(X:Cx)(e:Option Expr)(t:TO):Prop:=
 ∀(pins:List (Addr×Obj)) (s:Shared) (σ:St) (H:Hp) (Q:Option Int->Hp->Prop),Inv X pins σ H s->t σ H Q->
  wpAny (model X.prog X.w) X.A (evalPart e X.env) (λu s'=>∃o H',Inv X pins σ H' s'/\IsPart u o/\Q o H') X.xe s
def zdX:TO:=λv H Q=>Q none H
def zg0(t:TE):TO:=λσ H Q=>t σ H λx H1=>∃i,x= .int i/\Q (some i) H1
theorem intsAre_of{ns:List Int}:∀{us:List Value},zM (ns.map V.int) us->IntsAre us ns:=by
 induction ns with
 | nil=>intro us r;rw[w1F]at r;cases r;exact .nil
 | cons n ns a=>
  intro us r;rw[qF]at r;cases r with
  | cons r1 r2=>
   obtain⟨t,e⟩:=r1;subst e;exact .cons n t (a r2)
variable{X:Cx}{e:Expr}{us:List Value}
section
variable{te:TE}{lo hi:Option Expr}{tl th:TO}{pos p2:Pos}
theorem jW:PO X none zdX:=by
 intro pins s σ H Q I h;rw[evalPart_none];exact q9 (none,H,I,.none,h)
theorem jI(h:PE X e te):PO X (some e) (zg0 te):=by
 intro pins s σ H Q I b;rw[evalPart_some];refine thn (h pins s σ H _ I b) ?_;rintro u s1 ⟨x,H1,a,r1,q1⟩;obtain⟨i,rfl,q⟩:=q1;obtain⟨t,rfl⟩:=r1;exact(some i,H1,a,.int i t,q)
def SlR(X:Cx)(r:V->Option Int->Option Int->Hp->VK->Prop):Prop:=
 ∀(pins:List (Addr×Obj)) (s:Shared) (σ:St) (H:Hp) (x:V) (v b a:Value) (lo hi:Option Int) (sl:Addr) (Q:VK),Inv X pins σ H s->RelV x v->s.heap.IsSliceOf sl b a .none->IsPart b lo->IsPart a hi->r x lo hi H Q->
  ∃T id,typeLookup (.type T) "__getitem__"=pure (some (.builtin id))/\s.TypeIs v T/\wpAny (model X.prog X.w) X.A (getItem v (.ref sl)) (EP X pins σ Q) X.xe s
variable{r:V->Option Int->Option Int->Hp->VK->Prop}
theorem SlR.or{r':V->Option Int->Option Int->Hp->VK->Prop}(h:SlR X r)(h':SlR X r'):SlR X (λx lo hi H Q=>r x lo hi H Q\/r' x lo hi H Q):=by
 intro pins s σ H x v b c lo hi sl Q I a hs pl d q;rcases q with q|q
 .exact h pins s σ H x v b c lo hi sl Q I a hs pl d q
 .exact h' pins s σ H x v b c lo hi sl Q I a hs pl d q
def tSl(r:V->Option Int->Option Int->Hp->VK->Prop)(te:TE)(tl th:TO):TE:=λσ H Q=>te σ H λx H1=>tl σ H1 λl H2=>th σ H2 λu a=>r x l u a Q
theorem jt(hr:SlR X r)(he:PE X e te)(hl:PO X lo tl)(n:PO X hi th):PE X (.Subscript e (.Slice lo hi none p2) pos) (tSl r te tl th):=by
 intro pins s σ H Q I h;refine Subscript_ (thn (he pins s σ H _ I h) ?_);rintro v s1 ⟨x,H1,j,r1,q1⟩;refine wpAny_Slice (thn (hl pins s1 σ H1 _ j q1) ?_);rintro c s2 ⟨l,H2,B,pl,C⟩;refine thn (n pins s2 σ H2 _ B C) ?_;rintro d a ⟨u,f,i,z,p⟩;rw[evalPart_none];refine q9 ?_;have t:Inv X pins σ f {a with heap:=a.heap.push {cls:= .type "slice",data:= .fields #[c,d,.none]}}:=i.kept (t':=a.toks) λb D q=>wu _ q
 obtain⟨T,id,o,ht,y⟩:=hr pins {a with heap:=a.heap.push {cls:= .type "slice",data:= .fields #[c,d,.none]}} σ f x v c d l u a.heap.objs.size Q t r1 (Heap.IsSliceOf.new ..) pl z p
 show wpAny (model X.prog X.w) X.A (subscriptTail e (.Slice lo hi none p2) v (.ref a.heap.objs.size)) (EP X pins σ Q) X.xe {a with heap:=a.heap.push {cls:= .type "slice",data:= .fields #[c,d,.none]}}
 exact tail_any (ops:= [.ref a.heap.objs.size,v]) ht o y (by with_unfolding_all rfl)
noncomputable def z1W(xs:List V)(lo hi:Option Int):List V:=(xs.drop (HT.sIx xs.length 0 lo)).take (HT.sIx xs.length xs.length hi-HT.sIx xs.length 0 lo)
theorem z49(xs:List V)(lo hi:Option Int):(z1W xs lo hi).length<=xs.length:=by
 unfold z1W;rw[wV,w15]
 lia
def zgf(K:W.Frag):V->Option Int->Option Int->Hp->VK->Prop:=λx lo hi H Q=>∃a xs,x= .ref a/\SqT K H a xs/\
 ¬(HT.sIx xs.length 0 lo=0/\HT.sIx xs.length xs.length hi=xs.length)/\∀p,H p=none->Q (.ref p) (upd H p (.tup (z1W xs lo hi)))
theorem z4W:SlR X (zgf X.K):=by
 intro pins s σ H x v i j lo hi sl Q I d hs pl e h;obtain⟨a,xs,rfl,c,f,q⟩:=h;cases d;obtain⟨its,r,ht,hz⟩:=I.tuple c;have hlen:its.toArray.size=xs.length:=by rw[wB];exact r.length.symm
 refine("tuple",_,Ql.lookup,ht.typeIs,?_);refine HT.getItem_tuple_cut ht hs pl e (by rw[hlen];exact f) ?_ (by rw[hlen];exact hz);rw[hlen];refine(.ref s.heap.objs.size,_,I.laid (t':=s.toks) (o:= .tup (z1W xs lo hi)) (λb l q=>wu _ q) (wA _) ?_,rfl,q _ (I.hok.fresh (wA _)));exact(wY (z49 xs lo hi) hz,_,(r.drop (HT.sIx xs.length 0 lo)).take (HT.sIx xs.length xs.length hi-HT.sIx xs.length 0 lo),IsTup.new _ _)
def zgb(K:W.Frag):R2:=λx y H Q=>∃a b xs ys,x= .ref a/\y= .ref b/\SqT K H a xs/\SqT K H b ys/\xs≠ []/\xs.length+ys.length<=sizeLine/\
 (ys= []->Q (.ref a) H)/\(ys≠ []->∀p,H p=none->Q (.ref p) (upd H p (.tup (xs++ys))))
theorem zM.nil_iff{xs:List V}(r:zM xs us):us= []↔xs= []:=by
 cases r with
 | nil=>simp
 | cons _ _=>simp
theorem z9G:OpR X (binaryOp .Add) (zgb X.K):=by
 intro pins s σ H x y v u Q I d e h;obtain⟨a,b,xs,ys,rfl,rfl,ha,i,c,hz,q1,j⟩:=h;cases d;cases e;obtain⟨its,r1,f,_⟩:=I.tuple ha;obtain⟨l,r2,p2,_⟩:=I.tuple i;refine HT.cat_tup f p2 (λz=>c (r1.nil_iff.mp z)) (λz=>(.ref a,H,I,rfl,q1 (r2.nil_iff.mp z))) (λz=>?_) (by rw[<-r1.length,<-r2.length];exact hz);refine(.ref s.heap.objs.size,_,I.laid (t':=s.toks) (o:= .tup (xs++ys)) (λb n q=>wu _ q) (wA _) ?_,rfl,j (λw=>z (r2.nil_iff.mpr w)) _ (I.hok.fresh (wA _)));exact(by rw[wm];exact hz,_,r1.append r2,IsTup.new _ _)
end
noncomputable def ixN(n:Nat)(i:Int):Option Nat:=if 0<=i then(if i<n then some i.toNat else none)else if -(n:Int)<=i then some (i+n).toNat else none
variable{α:Type}
noncomputable def atI(xs:List α)(i:Int):Option α:=(ixN xs.length i).bind λj=>xs[j]?
variable{n j:Nat}{i:Int}
theorem z9t(h:ixN n i=some j):seqIndex? i n=some j/\j<n/\-(n:Int)<=i/\i<n:=by
 unfold ixN at h;by_cases h0:0<=i
 .rw [qd h0]at h;by_cases h1:i<n
  .rw [qd h1]at h;have e:i.toNat=j:=Option.some.inj h;exact(by rw[seqIndex_of h0 h1,e],by lia,by lia,h1)
  .rw [wW h1]at h;cases h
 .rw [wW h0]at h;by_cases h1: -(n:Int)<=i
  .rw [qd h1]at h;have e:(i+n).toNat=j:=Option.some.inj h;exact(by rw[seqIndex_neg (by lia) h1,e],by lia,h1,by lia)
  .rw [wW h1]at h;cases h
variable{xs:List α}
theorem z6V{v:α}(h:atI xs i=some v):∃j,seqIndex? i xs.length=some j/\xs[j]? =some v/\j<xs.length/\-(xs.length:Int)<=i/\i<xs.length:=by
 unfold atI at h;cases e:ixN xs.length i with
 | none=>rw[e]at h;cases h
 | some j=>
  rw[e]at h;obtain⟨h1,h2,a,b⟩:=z9t e;exact(j,h1,h,h2,a,b)
theorem zR{v:α}(h:xs[j]? =some v):atI xs (j:Int)=some v:=by
 have a:j<xs.length:=(wg.mp h).1;have e:ixN xs.length (j:Int)=some j:=by
  unfold ixN;rw[qd (by lia),qd (by lia)];simp
 unfold atI;rw[e];exact h
theorem zcp(xs:List α)(v:α):atI (xs++[v]) (-1)=some v:=by
 have hl:(xs++[v]).length=xs.length+1:=by simp
 have e:ixN (xs++[v]).length (-1)=some xs.length:=by
  unfold ixN;rw[hl,wW (by decide),qd (by lia)]
  congr 1
  lia
 unfold atI;rw[e]
 show(xs++[v])[xs.length]? =some v
 simp
def z6E(b:Expr):Prop:=∀o i,subscripted b false o i=operate [o,i] (getItem o i)
def IxR(X:Cx)(r:R2):Prop:=
 ∀(value slice:Expr) (pins:List (Addr×Obj)) (s:Shared) (σ:St) (H:Hp) (x y:V) (v u:Value) (Q:VK),Inv X pins σ H s->RelV x v->RelV y u->r x y H Q->
  subscripted slice false v u=operate [v,u] (getItem v u)->wpAny (model X.prog X.w) X.A (subscriptTail value slice v u) (EP X pins σ Q) X.xe s
def MtR(X:Cx)(id:String)(r:V->List V->Hp->VK->Prop):Prop:=
 ∀(pins:List (Addr×Obj)) (s:Shared) (σ:St) (H:Hp) (x:V) (xs:List V) (v:Value) (us:List Value) (Q:VK),Inv X pins σ H s->RelV x v->zM xs us->r x xs H Q->
  wpAny (model X.prog X.w) X.A (call (.builtin id) (v::us)) (EP X pins σ Q) X.xe s
variable{pins:List (Addr×Obj)}{H:Hp}{s:Shared}{its:List Value}{A:Around}{y x:V}{u:Value}{T:String}
section
variable{a b:Expr}{ta tb:TE}{pos:Pos}
theorem yz{r:R2}(hr:IxR X r)(ha:PE X a ta)(e:PE X b tb)(hs:z6E b):PE X (.Subscript a b pos) (tOp r ta tb):=by
 intro pins s σ H Q I h;exact Subscript_ (zfG ha e I h λv u s2 x y H2 f c d q=>hr a b pins s2 σ H2 x y v u Q f c d q (hs _ _))
def zfb(K:W.Frag):R2:=λx y H Q=>∃p xs i v,x= .ref p/\y= .int i/\SqL K H p xs/\atI xs i=some v/\Q v H
def zeM(K:W.Frag):R2:=λx y H Q=>∃p xs i v,x= .ref p/\y= .int i/\SqT K H p xs/\atI xs i=some v/\Q v H
def zh5:R2:=λx y H Q=>∃z i c,x= .str z/\y= .int i/\z.length<=sizeLine/\atI z.cps.toList i=some c/\Q (.str ⟨#[c]⟩) H
theorem z9Z:IxR X (zfb X.K):=by
 intro value slice pins s σ H x y v u Q I c e h hs;obtain⟨p,xs,i,z,rfl,rfl,hq,he,q⟩:=h;cases c;obtain⟨t,rfl⟩:=e;obtain⟨its,r,pl,hz⟩:=I.list hq;obtain⟨j,h1,h2,n,l,d⟩:=z6V he;obtain⟨w,b,f⟩:=r.get h2;have hl:=r.length;have hn:=z2W;have fin:EP X pins σ Q w s:=(z,H,I,f,q);by_cases h0:0<=i
 .have a:i.toNat=j:=by
   rw[seqIndex_of h0 d]at h1;exact Option.some.inj h1
  exact item_listR pl.isList h0 (by lia) (by rw[a];simpa using b) fin hs
 .have a:(i+(its.toArray.size:Int)).toNat=j:=by
   rw[seqIndex_neg (by lia) l]at h1;rw[wB,<-hl];exact Option.some.inj h1
  exact subscriptTail_builtinR (x:=w) pl.isList.typeIs slot_list_getitem.lookup
   (wpAny_getItem_list_neg (Q:=λr s'=>r=w/\EP X pins σ Q r s') pl.isList (by lia) (by rw[wB]<;>lia) (by lia) (by rw[a];simpa using b) (rfl,fin)) hs
theorem zbP:IxR X (zeM X.K):=by
 intro value slice pins s σ H x y v u Q I a b h hs;obtain⟨p,xs,i,z,rfl,rfl,hq,he,q⟩:=h;cases a;obtain⟨t,rfl⟩:=b;obtain⟨its,r,pl,hz⟩:=I.tuple hq;obtain⟨j,h1,h2,e,l,f⟩:=z6V he;obtain⟨w,d,c⟩:=r.get h2;have hl:=r.length;have hn:=z2W;have fin:EP X pins σ Q w s:=(z,H,I,c,q);exact subscriptTail_builtinR (x:=w) pl.typeIs slot_tuple_getitem.lookup
  (getItem_tuple (j:=j) (Q:=λr s'=>r=w/\EP X pins σ Q r s') pl (by lia) (by lia) (by rw[wB,<-hl];exact h1) (by simpa using d) (rfl,fin)) hs
theorem zfH:IxR X zh5:=by
 intro value slice pins s σ H x y v u Q I b e h hs;obtain⟨z,i,c,rfl,rfl,hz,he,q⟩:=h;obtain⟨t,rfl⟩:=b;obtain⟨t',rfl⟩:=e;obtain⟨j,h1,h2,n,f,d⟩:=z6V he;have hl:z.cps.toList.length=z.length:=by simp[Str.length]
 rw[hl]at h1 f d;have hn:=z2W;exact tail_any (typeIs_str s z t) slot_str_getitem.lookup (getItem_str (c:=c) (by
  have l:decide (i < -(2 ^ 63:Int))=false:=wK (by lia);have a:decide (i≥2 ^ 63)=false:=wK (by lia);rw[l,a,Bool.or_false]) (by rw[h1];simpa using h2) (.str ⟨#[c]⟩,H,I.tok _,(_,rfl),q)) hs
theorem z8O(its:List Value)(n j:Nat)(u:Value):Obj.mapSeq (·.setIfInBounds j u) {cls:= .type "list",data:= .seq its.toArray n}={cls:= .type "list",data:= .seq (its.set j u).toArray n}:=by
 simp[Obj.mapSeq]
theorem Inv.lst{pins:List (Addr×Obj)}{σ:St}{H:Hp}{s:Shared}{p:Addr}{xs:List V}(I:Inv X pins σ H s)(h:H p=some (.lst xs)):
  ∃(its:List Value) (n:Nat),zM xs its/\s.heap.get? p=some {cls:= .type "list",data:= .seq its.toArray n}/\xs.length<=sizeLine:=by
 obtain⟨z,its,n,r,e⟩:=I.hok p _ h;exact(its,n,r,e,z)
theorem Inv.lstUpd{σ:St}{p:Addr}{xs ys:List V}{its':List Value}{a:Nat}{f:Obj->Obj}(I:Inv X pins σ H s)(h:H p=some (.lst xs))
  (i:s.heap.get? p=some {cls:= .type "list",data:= .seq its.toArray n}) (c:f {cls:= .type "list",data:= .seq its.toArray n}={cls:= .type "list",data:= .seq its'.toArray a}) (r:zM ys its') (hz:ys.length<=sizeLine) (t:Nat):
  Inv X pins σ (upd H p (.lst ys)) {s with heap:=s.heap.update p f,toks:=t}:=by
 have e:(s.heap.update p f).get? p=some {cls:= .type "list",data:= .seq its'.toArray a}:=by
  rw[w1h f i (by rw[c]<;>rfl),c]
 refine I.write (x:=p) (e:=p) (by rw[h];trivial) (.inl rfl) (λb u d q=>(Qi _ _ (w1G d)).trans q) (_,e) ?_;exact(hz,its',a,r,e)
def zfY:V->V->V->Hp->(Hp->Prop)->Prop:=λo i v H Q=>∃p xs k j,o= .ref p/\i= .int k/\H p=some (.lst xs)/\ixN xs.length k=some j/\Q (upd H p (.lst (xs.set j v)))
theorem set_list:zfS X zfY:=by
 intro pins s σ H o i v y z u Q I x l w h;obtain⟨p,xs,k,j,rfl,rfl,hp,f,q⟩:=h;cases x;obtain⟨t,rfl⟩:=l;obtain⟨its,n,r,a,hz⟩:=I.lst hp;obtain⟨h1,h2,c,d⟩:=z9t f;have hl:=r.length;have hn:=z2W;have e:Inv X pins σ (upd H p (.lst (xs.set j v))) {s with heap:=s.heap.update p (Obj.mapSeq (·.setIfInBounds j u))}:=
  I.lstUpd hp a (z8O its n j u) (r.set w j) (by rw[List.length_set];exact hz) s.toks
 by_cases h0:0<=k
 .have b:k.toNat=j:=by
   rw[seqIndex_of h0 d]at h1;exact Option.some.inj h1
  exact PySem.W.ki_setAt a h0 (by lia) (by rw[wB,<-hl];exact d) (by rw[b];exact(_,e,q))
 .have b:(k+(its.toArray.size:Int)).toNat=j:=by
   rw[seqIndex_neg (by lia) c]at h1;rw[wB,<-hl];exact Option.some.inj h1
  exact PySem.W.ki_setBack a (by lia) (by rw[wB,<-hl];exact c) (by lia) (by rw[b];exact(_,e,q))
theorem z6O(lo hi:Option Int)(n:Nat):(sliceBounds lo hi none n).1=((HT.sIx n 0 lo:Nat):Int)/\(sliceBounds lo hi none n).2.1=((HT.sIx n n hi:Nat):Int)/\(sliceBounds lo hi none n).2.2=1:=by
 refine(?_,?_,rfl)
 .cases lo with
  | none=>simp[sliceBounds,HT.sIx]
  | some i=>
   simp only[sliceBounds,HT.sIx,Option.getD_none,show(1:Int) > 0 by decide,w1f];by_cases h:i<0
   .simp only [h,w1f]<;>lia
   .simp only [h,w0B]<;>lia
 .cases hi with
  | none=>simp[sliceBounds,HT.sIx]
  | some i=>
   simp only[sliceBounds,HT.sIx,Option.getD_none,show(1:Int) > 0 by decide,w1f];by_cases h:i<0
   .simp only [h,w1f]<;>lia
   .simp only [h,w0B]<;>lia
theorem z5s(its:List Value)(lo hi:Option Int):slicePick its.toArray lo hi none=((its.drop (HT.sIx its.length 0 lo)).take (HT.sIx its.length its.length hi-HT.sIx its.length 0 lo)).toArray:=by
 obtain⟨h1,h2,a⟩:=z6O lo hi its.toArray.size;unfold slicePick;rw[h1,h2,a];simp only[sliceRange_one,pick_run,wB]<;>rfl
def zgN(K:W.Frag):V->Option Int->Option Int->Hp->VK->Prop:=λx lo hi H Q=>∃a xs,x= .ref a/\SqL K H a xs/\∀p,H p=none->Q (.ref p) (upd H p (.lst (z1W xs lo hi)))
theorem yI:SlR X (zgN X.K):=by
 intro pins s σ H x v f i lo hi sl Q I d hs pl e h;obtain⟨a,xs,rfl,c,q⟩:=h;cases d;obtain⟨its,r,ht,hz⟩:=I.list c;have hlen:=r.length;refine("list",_,slot_list_getitem.lookup,ht.isList.typeIs,?_);refine wpAny_getItem_list_slice ht.isList hs pl e .none (by simp) ?_ (by rw[wB]<;>lia);rw[z5s,<-hlen];refine(.ref s.heap.objs.size,_,I.laid (t':=s.toks) (o:= .lst (z1W xs lo hi)) (λb j q=>wu _ q) (wA _) ?_,rfl,q _ (I.hok.fresh (wA _)));exact(wY (z49 xs lo hi) hz,_,0,(r.drop (HT.sIx xs.length 0 lo)).take (HT.sIx xs.length xs.length hi-HT.sIx xs.length 0 lo),qh _ rfl)
noncomputable def ko:V->Bool
 | .non=>true
 | .bl _=>true
 | .int _=>true
 | .str _=>true
 | _=>false
noncomputable def eqV:V->V->Bool
 | .non,.non=>true
 | .bl a,.bl b=>a == b
 | .bl a,.int b=>(if a then 1 else 0) == b
 | .int a,.bl b=>a == (if b then 1 else 0)
 | .int a,.int b=>a == b
 | .str a,.str b=>a == b
 | _,_=>false
theorem z6Y{v:Value}(d:RelV y u)(c:RelV x v)(f:ko y=true)(e:ko x=true):SeqAt.EqAt A s u v (eqV y x):=by
 cases y with
 | non=>
  cases d;cases x with
  | non=>cases c;exact SeqAt.EqAt.same _
  | bl b=>cases c;exact SeqAt.EqAt.none_bool b
  | int b=>obtain⟨t,rfl⟩:=c;exact SeqAt.EqAt.none_int b t
  | str b=>obtain⟨t,rfl⟩:=c;exact SeqAt.EqAt.none_str b t
  | _=>exact absurd (show false=true from e) wU
 | bl a=>
  cases d;cases x with
  | non=>cases c;exact SeqAt.EqAt.bool_none a
  | bl b=>cases c;exact SeqAt.EqAt.bool_bool a b
  | int b=>obtain⟨t,rfl⟩:=c;exact SeqAt.EqAt.bool_int a b t
  | str b=>obtain⟨t,rfl⟩:=c;exact SeqAt.EqAt.bool_str a b t
  | _=>exact absurd (show false=true from e) wU
 | int a=>
  obtain⟨t',rfl⟩:=d;cases x with
  | non=>cases c;exact SeqAt.EqAt.int_none a t'
  | bl b=>cases c;exact SeqAt.EqAt.int_bool a t' b
  | int b=>obtain⟨t,rfl⟩:=c;exact SeqAt.EqAt.int_int a t' b t
  | str b=>obtain⟨t,rfl⟩:=c;exact SeqAt.EqAt.int_str a t' b t
  | _=>exact absurd (show false=true from e) wU
 | str a=>
  obtain⟨t',rfl⟩:=d;cases x with
  | non=>cases c;exact SeqAt.EqAt.str_none a t'
  | bl b=>cases c;exact SeqAt.EqAt.str_bool a t' b
  | int b=>obtain⟨t,rfl⟩:=c;exact SeqAt.EqAt.str_int a t' b t
  | str b=>obtain⟨t,rfl⟩:=c;exact SeqAt.EqAt.str_str a t' b t
  | _=>exact absurd (show false=true from e) wU
 | _=>exact absurd (show false=true from f) wU
noncomputable def eqU(x:V)(u:Value):Bool:=match u with
 | .none=>eqV .non x
 | .bool b=>eqV (.bl b) x
 | .int i _=>eqV (.int i) x
 | .str z _=>eqV (.str z) x
 | _=>false
theorem z6p(r:RelV y u)(f:ko y=true):eqU x u=eqV y x:=by
 cases y with
 | non=>cases r;rfl
 | bl b=>cases r;rfl
 | int i=>obtain⟨t,rfl⟩:=r;rfl
 | str z=>obtain⟨t,rfl⟩:=r;rfl
 | _=>exact absurd (show false=true from f) wU
theorem z3c{x:V}:∀{xs:List V} {us:List Value},zM xs us->xs.all ko=true->us.any (eqU x)=xs.any λy=>eqV y x
 | _,_,.nil,_=>rfl
 | y::xs,u::us,.cons r t,f=>by
  rw[List.all_cons,Qb]at f;rw[w1I,w1I,z6p r f.1,z3c t f.2]
theorem z1n{A:Around}{s:Shared}{x:V}{v:Value}(a:RelV x v)(b:ko x=true):∀{xs:List V} {us:List Value},zM xs us->xs.all ko=true->∀u∈us,SeqAt.EqAt A s u v (eqU x u)
 | _,_,.nil,_=>λu hu=>by cases hu
 | y::xs,u::us,.cons r t,f=>λc hu=>by
  rw[List.all_cons,Qb]at f;rcases wL.mp hu with rfl|hu
  .rw [z6p r f.1];exact z6Y r a f.1 b
  .exact z1n a b t f.2 c hu
noncomputable def inV(x:V)(xs:List V):Bool:=xs.any λy=>eqV y x
def rIn(K:W.Frag)(a:Bool):R2:=λx y H Q=>∃p xs,y= .ref p/\(SqL K H p xs\/SqT K H p xs)/\ko x=true/\xs.all ko=true/\Q (.bl (if a then !inV x xs else inV x xs)) H
theorem kR:OpR X (compareOp .In) (rIn X.K false):=by
 intro pins s σ H x y v u Q I b d h;obtain⟨p,xs,rfl,hq,c,fs,q⟩:=h;cases d;rcases hq with hq|hq
 .obtain⟨its,r,pl,hz⟩:=I.list hq;refine SeqAt.in_listAt (eqU x) pl.isList (λw a=>z1n b c r fs w (by simpa using a)) (.bl _,H,I,rfl,?_);rw[show its.toArray.any (eqU x)=its.any (eqU x) by simp,z3c r fs];exact q
 .obtain⟨its,r,pl,hz⟩:=I.tuple hq;refine SeqAt.in_tupleAt (eqU x) pl (λw a=>z1n b c r fs w (by simpa using a)) (.bl _,H,I,rfl,?_);rw[show its.toArray.any (eqU x)=its.any (eqU x) by simp,z3c r fs];exact q
theorem kD:OpR X (compareOp .NotIn) (rIn X.K true):=by
 intro pins s σ H x y v u Q I b d h;obtain⟨p,xs,rfl,hq,c,fs,q⟩:=h;cases d;rcases hq with hq|hq
 .obtain⟨its,r,pl,hz⟩:=I.list hq;refine SeqAt.notIn_listAt (eqU x) pl.isList (λw a=>z1n b c r fs w (by simpa using a)) (.bl _,H,I,rfl,?_);rw[show its.toArray.any (eqU x)=its.any (eqU x) by simp,z3c r fs];exact q
 .obtain⟨its,r,pl,hz⟩:=I.tuple hq;refine SeqAt.notIn_tupleAt (eqU x) pl (λw a=>z1n b c r fs w (by simpa using a)) (.bl _,H,I,rfl,?_);rw[show its.toArray.any (eqU x)=its.any (eqU x) by simp,z3c r fs];exact q
theorem z38:ki X (.builtin "len") (λxs H Q=>∃p ys,xs= [.ref p]/\(SqL X.K H p ys\/SqT X.K H p ys)/\Q (.int ys.length) H):=by
 intro pins s σ H xs us Q I r h;obtain⟨p,ys,rfl,hq,q⟩:=h;obtain⟨u,rfl,a⟩:=vals1 r;cases a;have hn:=z2W;rcases hq with hq|hq
 .obtain⟨its,r',pl,hz⟩:=I.list hq;have hlen:=r'.length;exact Calls.call_len_list pl.isList (by simp only[wB]<;>lia) (.int ys.length,H,I.tok _,(s.toks+1,by rw[wB,hlen]),q)
 .obtain⟨its,r',pl,hz⟩:=I.tuple hq;have hlen:=r'.length;exact len_tuple pl (by simp only[wB]<;>lia) (.int ys.length,H,I.tok _,(s.toks+1,by rw[wB,hlen]),q)
theorem yJ:ki X (.type "list") (λxs H Q=>∃p ys,xs= [.ref p]/\(SqL X.K H p ys\/SqT X.K H p ys)/\∀l,H l=none->Q (.ref l) (upd H l (.lst ys))):=by
 intro pins s σ H xs us Q I r h;obtain⟨p,ys,rfl,hq,q⟩:=h;obtain⟨u,rfl,c⟩:=vals1 r;cases c;have fin:∀(its:List Value),zM ys its->ys.length<=sizeLine->∀(h':Heap) (c':Nat),(∀b o',s.heap.get? b=some o'->h'.get? b=some o')->
   h'.get? s.heap.objs.size=some {cls:= .type "list",dict:=none,data:= .seq its.toArray c',slots:= #[]}->EP X pins σ Q (.ref s.heap.objs.size) {s with heap:=h'}:=λits r' hz h' c' kp e=>
  (.ref s.heap.objs.size,_,I.laid (t':=s.toks) kp (wA _) (show jk X.prog X.w _ h' _ (.lst ys)from(hz,its,c',r',e)),rfl,q _ (I.hok.fresh (wA _)))
 rcases hq with hq|hq
 .obtain⟨its,r',pl,hz⟩:=I.list hq;have hlen:=r'.length;obtain⟨o,a,hc,n,hd⟩:=pl.isList;exact call_list_seq p (.inl rfl) a hc hd (λh' c' kp e=>fin its r' hz h' c' kp e) (by simp only[wB]<;>lia)
 .obtain⟨its,r',pl,hz⟩:=I.tuple hq;have hlen:=r'.length;obtain⟨o,a,hc,n,hd⟩:=pl;exact call_list_seq p (.inr rfl) a hc hd (λh' c' kp e=>fin its r' hz h' c' kp e) (by simp only[wB]<;>lia)
theorem z1h:ki X (.type "tuple") (λxs H Q=>∃p ys,xs= [.ref p]/\((SqL X.K H p ys/\∀l,H l=none->Q (.ref l) (upd H l (.tup ys)))\/(SqT X.K H p ys/\Q (.ref p) H))):=by
 intro pins s σ H xs us Q I r h;obtain⟨p,ys,rfl,h⟩:=h;obtain⟨u,rfl,c⟩:=vals1 r;cases c;rcases h with⟨hq,q⟩|⟨hq,q⟩
 .obtain⟨its,r',pl,hz⟩:=I.list hq;have hlen:=r'.length;refine call_tuple_list pl.isList (λh' kp=>?_) (by simp only[wB]<;>lia);have a:Inv X pins σ H {s with heap:=h'}:=I.kept (t':=s.toks) kp;have d:Inv X pins σ (upd H h'.objs.size (.tup ys)) {s with heap:=h'.push {cls:= .type "tuple",data:= .seq its.toArray}}:=
   a.laid (t':=s.toks) (λb o e=>wu _ e) (wA _) (show jk X.prog X.w _ _ _ (.tup ys)from(hz,its,r',IsTup.new _ _))
  exact(.ref h'.objs.size,_,d,rfl,q _ (a.hok.fresh (wA _)))
 .obtain⟨its,r',pl,hz⟩:=I.tuple hq;exact call_tuple_same pl (.ref p,H,I,rfl,q)
def tyV(K:W.Frag)(T:String)(x:V)(H:Hp):Prop:=match x with
 | .str _=>T="str"
 | .int _=>T="int"
 | .ref p=>(T="list"/\∃xs,SqL K H p xs)\/(T="tuple"/\∃o,K.lookup p=some o/\o.cls= .type "tuple"/\o.dict=none)\/
   (T="dict"/\((∃kvs,H p=some (.dK kvs))\/∃kvs,H p=some (.dT kvs)))\/(T="set"/\∃S n,H p=some (.set S n))
 | _=>False
theorem zd7{σ:St}{v:Value}(I:Inv X pins σ H s)(r:RelV x v)(ty:tyV X.K T x H):
  s.TypeIs v T/\∀a,v= .ref a->∃d,s.heap.get? a=some d/\d.dict=none:=by
 cases x with
 | str z=>
  obtain⟨t,rfl⟩:=r;cases (show T="str" from ty);exact(typeIs_str s z t,λu e=>nomatch e)
 | int i=>
  obtain⟨t,rfl⟩:=r;cases (show T="int" from ty);exact(typeIs_int s i t,λu e=>nomatch e)
 | ref p=>
  cases r;rcases ty with⟨rfl,xs,hq⟩|⟨rfl,o,hk,hc,hd⟩|⟨rfl,hk⟩|⟨rfl,S,n,hk⟩
  .obtain⟨its,_,pl,_⟩:=I.list hq;refine(pl.isList.typeIs,λa e=>?_);cases e;obtain⟨o,n,e,c,hd,_⟩:=pl;exact(o,e,hd)
  .refine((o,I.kIn p o hk,hc),λa e=>?_);cases e;exact(o,I.kIn _ o hk,hd)
  .have z:∃o,s.heap.get? p=some o/\o.ExactDict:=by
    rcases hk with⟨kvs,hk⟩|⟨kvs,hk⟩
    .obtain⟨_,_,_,_,o,_,_,e,ex,_⟩:=I.hok p _ hk;exact(o,e,ex)
    .obtain⟨_,_,_,_,o,_,_,e,ex,_⟩:=I.hok p _ hk;exact(o,e,ex)
   obtain⟨o,e,ex⟩:=z;refine((o,e,ex.1),λa b=>?_);cases b;exact(o,e,ex.2.1)
  .obtain⟨o,_,_,_,e,ex,_⟩:=I.hok p _ hk;refine((o,e,ex.1),λa b=>?_);cases b;exact(o,e,ex.2.1)
 | _=>exact False.elim ty
def zgS(K:W.Frag)(T:String)(r:V->List V->Hp->VK->Prop)(to:TE):TE:=λσ H Q=>to σ H λx H1=>tyV K T x H1/\r x [] H1 Q
def tBM(K:W.Frag)(T:String)(r:V->List V->Hp->VK->Prop)(to:TE)(t:TA):TE:=λσ H Q=>to σ H λx H1=>tyV K T x H1/\t σ H1 λxs H2=>r x xs H2 Q
variable{o:Expr}{es:List Expr}{to:TE}{t:TA}{name:Str}{apos ad:Pos}{id:String}{r:V->List V->Hp->VK->Prop}
theorem z26(c:PlainAttrs T)(slot:Slot T name id)(f:typeOf (.builtin id)=pure (.type "method_descriptor"))(hm:MtR X id r)(b:PE X o to)
  (e:(attributeBase o name X.env (eval o X.env)=eval o X.env)⁻¹) (d:((apos.endLine == ad.line)=true)⁻¹):PE X (.Call (.Attribute o name apos) [] [] ad) (zgS X.K T r to):=by
 intro pins s σ H Q I h;refine wpAny_Call_method0_late e d (thn (b pins s σ H _ I h) ?_);rintro v s1 ⟨x,H1,a,r1,ty,q1⟩;obtain⟨h1,h2⟩:=zd7 a r1 ty;exact(T,id,c,slot,f,h1,h2,w18 rfl (PySem.evalArgs_none (hm pins s1 σ H1 x [] v [] Q a r1 .nil q1)))
theorem kg(d:PlainAttrs T)(slot:Slot T name id)(j:typeOf (.builtin id)=pure (.type "method_descriptor"))(hm:MtR X id r)(c:PE X o to)(ha:PA X (e::es) t)
  (i:(attributeBase o name X.env (eval o X.env)=eval o X.env)⁻¹)
  (l:((backTo ad (starEach (e::es) X.env)).all (λx=> !x.1)&&(backToKw ad (keywordEach [] X.env)).all (λx=>x.1.isSome)
   && decide ((e::es).length+([]:List Keyword).length+(if([]:List Keyword).isEmpty then 0 else 1)<30))=true:=by rfl)
  (f:((apos.endLine == ad.line)=true)⁻¹) (hs:(starEach (e::es) X.env=(false,eval e X.env)::starEach es X.env)⁻¹) (hplain:((backTo ad (starEach es X.env)).any (·.1)=false)⁻¹):
  PE X (.Call (.Attribute o name apos) (e::es) [] ad) (tBM X.K T r to t):=by
 intro pins s σ H Q I h;refine wpAny_Call_method_late i l f rfl (thn (c pins s σ H _ I h) ?_);rintro v s1 ⟨x,H1,b,r1,ty,q1⟩;obtain⟨h1,h2⟩:=zd7 b r1 ty;refine(T,id,d,slot,j,h1,h2,?_);have a:=ha ad pins s1 σ H1 _ b q1;rw[hs]at a ⊢;refine w18 (by show(false||(backTo ad (starEach es X.env)).any (·.1))=false;rw[hplain]<;>rfl) (Calls.evalArgs_plain ?_);exact thn a λus s2 ⟨vs,H2,n,r2,p⟩=>hm pins s2 σ H2 x vs v us Q n r1 r2 p
end
def MtM(X:Cx)(id:String)(r:V->List V->Hp->VK->Prop):Prop:=
 ∀(pins:List (Addr×Obj)) (s:Shared) (σ:St) (H:Hp) (x:V) (xs:List V) (v:Value) (us:List Value) (Q:VK),Inv X pins σ H s->RelV x v->zM xs us->r x xs H Q->
  wpAny (model X.prog X.w) X.A (call (.builtin id) (v::us)) (EP X pins σ Q) X.xe s
theorem zM.one(h:zM [x] us):∃u,us= [u]/\RelV x u:=by
 rcases h with _|⟨r,t⟩;cases t;exact(_,rfl,r)
def zM.zero:∀{us:List Value},zM [] us->us= []
 | _,.nil=>rfl
theorem zM.dropLast{xs:List V}(h:zM xs us):zM xs.dropLast us.dropLast:=by
 induction h with
 | nil=>exact .nil
 | cons r t a=>
  cases t with
  | nil=>exact .nil
  | cons q t'=>exact .cons r a
theorem z8M(l:List α):l.eraseIdx (l.length-1)=l.dropLast:=by
 induction l with
 | nil=>rfl
 | cons a r c=>
  cases r with
  | nil=>rfl
  | cons b r=>
   have e:(a::b::r).length-1=((b::r).length-1)+1:=by
    have h1:(a::b::r).length=r.length+2:=rfl;have h2:(b::r).length=r.length+1:=rfl
    lia
   rw[e,List.eraseIdx_cons_succ,c]
   all_goals rfl
variable{t':Nat}
section
variable{σ:St}{l b:Addr}{xs ys zs:List V}
theorem Inv.lset{its':List Value}{f:Array Value->Array Value}(I:Inv X pins σ H s)(b:H l=some (.lst xs))
  (e:s.heap.get? l=some {cls:= .type "list",data:= .seq its.toArray n}) (d:f its.toArray=its'.toArray) (a:zM ys its') (hz:ys.length<=sizeLine):
  Inv X pins σ (upd H l (.lst ys)) {s with heap:=s.heap.update l (Obj.mapSeq f),toks:=t'}:=by
 have q:=PySem.IsL.update e f;rw[d]at q;refine I.write (x:=l) (e:=l) (by rw[b];exact trivial) (.inl rfl) (λb' u c h=>(Qi s.heap (Obj.mapSeq f) (w1G c)).trans h) (_,q) ?_;exact(hz,its',_,a,q)
def Inv.lnew(I:Inv X pins σ H s)(a:zM ys its)(hz:ys.length<=sizeLine):
  Inv X pins σ (upd H s.heap.objs.size (.lst ys)) {s with heap:=s.heap.push {cls:= .type "list",data:= .seq its.toArray},toks:=t'}:=
 I.laid (λv v q=>wu _ q) (wA _) (hz,its,0,a,qh _ rfl)
def Inv.fresh(I:Inv X pins σ H s):H s.heap.objs.size=none:=I.hok.fresh (wA _)
theorem Inv.lstM(I:Inv X pins σ H s)(a:H l=some (.lst xs)):xs.length<=sizeLine/\∃(its:List Value) (n:Nat),zM xs its/\xs.length=its.length/\s.heap.get? l=some {cls:= .type "list",data:= .seq its.toArray n}:=by
 obtain⟨z,its,n,r,e⟩:=I.hok l _ a;exact(z,its,n,r,r.length,e)
theorem z7K(h:n<=sizeLine):Builtin.List.listTooLong n=false:=by
 unfold Builtin.List.listTooLong;exact wK (by lia)
end
def z9U:V->List V->Hp->VK->Prop:=λx vs H Q=>∃l xs y,x= .ref l/\vs= [y]/\H l=some (.lst xs)/\xs.length<sizeLine/\Q .non (upd H l (.lst (xs++[y])))
theorem zaL:MtM X "list.append" z9U:=by
 intro pins s σ H x vs v us Q I b c h;obtain⟨l,xs,y,rfl,rfl,a,hz,q⟩:=h;cases b;obtain⟨u,rfl,d⟩:=c.one;obtain⟨z,its,n,r,hl,e⟩:=I.lstM a;refine w20 F.slot_list_append (_,e,rfl) F.entry_list_append (F.args_list_append_2 _ _) (PySem.list_append l its.toArray n u (by rw[wB];lia)) (e,?_);refine(.non,_,I.lset (its':=its++[u]) a e (by simp) (r.append (.cons d .nil)) ?_,rfl,q);rw[wm,wJ]
 lia
def zdI:V->List V->Hp->VK->Prop:=λx vs H Q=>∃l b xs zs,x= .ref l/\vs= [.ref b]/\H l=some (.lst xs)/\H b=some (.lst zs)/\xs.length+zs.length<=sizeLine/\Q .non (upd H l (.lst (xs++zs)))
theorem z5H:MtM X "list.extend" zdI:=by
 intro pins s σ H x vs v us Q I f i h;obtain⟨l,b,xs,zs,rfl,rfl,c,t,hz,q⟩:=h;cases f;obtain⟨u,rfl,o⟩:=i.one;cases o;obtain⟨z,its,n,r,hl,e⟩:=I.lstM c;obtain⟨y,a,p,r2,w,d⟩:=I.lstM t;have hsz:its.toArray.size+a.toArray.size<=sizeLine:=by rw[wB,wB];lia
 have j:¬(!its.toArray.isEmpty&&Builtin.List.listTooLong (its.toArray.size+a.toArray.size))=true:=by
  rw[z7K hsz,Bool.and_false];exact wU
 refine w20 F.slot_list_extend (_,e,rfl) F.entry_list_extend (F.args_list_extend_2 _ _)
  (AutoSeq1.list_extend_list_list_0 l its.toArray n b a.toArray p j (by rw[wB];lia) (by lia)) (e,d,?_)
 refine(.non,_,I.lset (its':=its++a) c e (by simp) (r.append r2) ?_,rfl,q);rw[wm]
 lia
def zgL:V->List V->Hp->VK->Prop:=λx vs H Q=>∃l xs y,x= .ref l/\vs= []/\H l=some (.lst xs)/\xs[xs.length-1]? =some y/\Q y (upd H l (.lst xs.dropLast))
theorem z2b:MtM X "list.pop" zgL:=by
 intro pins s σ H x vs v us Q I b d h;obtain⟨l,xs,y,rfl,rfl,a,c,q⟩:=h;cases b;have o:=d.zero;subst o;obtain⟨z,its,n,r,hl,e⟩:=I.lstM a;obtain⟨u,f,i⟩:=r.get c;have j:its.toArray[its.toArray.size-1]? =some u:=by
  show its.toArray[its.length-1]? =some u
  rw[<-Array.getElem?_toList,<-hl];exact f
 refine w20 F.slot_list_pop (_,e,rfl) F.entry_list_pop (F.args_list_pop_1 _) (MeetsSeq.list_pop_last l its.toArray n u j (by rw[wB];lia)) (e,?_);refine(y,_,I.lset (its':=its.dropLast) a e ?_ r.dropLast ?_,i,q)
 .show its.toArray.eraseIdxIfInBounds (its.toArray.size-1)=its.dropLast.toArray
  rw[wB,List.eraseIdxIfInBounds_toArray,z8M]
 .rw [List.length_dropLast]
  lia
def zgU:R2:=λx y H Q=>∃l b xs zs,x= .ref l/\y= .ref b/\H l=some (.lst xs)/\H b=some (.lst zs)/\xs.length+zs.length<=sizeLine/\∀p,H p=none->Q (.ref p) (upd H p (.lst (xs++zs)))
theorem kF:OpR X (binaryOp .Add) zgU:=by
 intro pins s σ H x y v u Q I d i h;obtain⟨l,b,xs,zs,rfl,rfl,f,j,hz,q⟩:=h;cases d;cases i;obtain⟨z,its,n,r,hl,e⟩:=I.lstM f;obtain⟨w,a,t,r2,p,c⟩:=I.lstM j;refine PySem.P.add_list e c ?_ (by rw[wB,wB];lia);have o:its.toArray++a.toArray=(its++a).toArray:=by simp
 rw[o];exact(.ref _,_,I.lnew (t':=s.toks) (r.append r2) (by rw[wm];lia),rfl,q _ I.fresh)
variable{o:Option V}
section
variable{κ:Type}[DecidableEq κ]
noncomputable def jX(kvs:List (κ×V))(k:κ):Option V:=(kvs.find? λkv=>decide (kv.1=k)).map (·.2)
noncomputable def putK(kvs:List (κ×V))(k:κ)(v:V):List (κ×V):=
 if(kvs.any λkv=>decide (kv.1=k))=true then kvs.map (λkv=>if kv.1=k then(kv.1,v)else kv)else kvs++[(k,v)]
variable{r:List (κ×V)}
theorem yB{p:κ×V}{k:κ}(e:p.1=k):jX (p::r) k=some p.2:=by simp[jX,w0T,e]
theorem yF{p:κ×V}{k:κ}(e:¬p.1=k):jX (p::r) k=jX r k:=by simp[jX,w0T,e]
theorem z0g(k:κ):∀kvs:List (κ×V),(kvs.any λkv=>decide (kv.1=k))=(jX kvs k).isSome
 | []=>rfl
 | p::r=>by
  rw[w1I];by_cases e:p.1=k
  .simp only [yB e,wN e,Bool.true_or,Option.isSome_some]
  .rw [yF e,wK e,Bool.false_or];exact z0g k r
theorem z82(k j:κ)(y:V):∀kvs:List (κ×V),jX (kvs.map λkv=>if kv.1=k then(kv.1,y)else kv) j=(jX kvs j).map λx=>if j=k then y else x
 | []=>rfl
 | p::r=>by
  have a:=z82 k j y r;rw[qF];by_cases h:p.1=k
  .rw [qd h];by_cases e:p.1=j
   .rw [yB (p:=(p.1,y)) e,yB e,Option.map_some,qd (e.symm.trans h)]
   .rw [yF (p:=(p.1,y)) e,yF e,a]
  .rw [wW h];by_cases e:p.1=j
   .rw [yB (p:=p) e,yB e,Option.map_some,wW (λz=>h (e.trans z))]
   .rw [yF (p:=p) e,yF e,a]
theorem z5M(k j:κ)(y:V):∀kvs:List (κ×V),jX kvs k=none->jX (kvs++[(k,y)]) j=if j=k then some y else jX kvs j
 | [],_=>by
  by_cases e:k=j
  .rw [qd e.symm];exact yB (p:=(k,y)) e
  .rw [wW (λz=>e z.symm)];exact yF (p:=(k,y)) e
 | p::r,hn=>by
  rw[List.cons_append];have a:¬p.1=k:=λz=>by rw[yB z]at hn;cases hn
  rw[yF a]at hn;have b:=z5M k j y r hn;by_cases e:p.1=j
  .rw [yB e,yB e,wW (λz=>a (e.trans z))]
  .rw [yF e,yF e,b]
theorem z4K(kvs:List (κ×V))(k j:κ)(y:V):jX (putK kvs k y) j=if j=k then some y else jX kvs j:=by
 unfold putK;by_cases a:(kvs.any λkv=>decide (kv.1=k))=true
 .rw [qd a,z82];rw[z0g]at a;by_cases e:j=k
  .obtain⟨x,b⟩:=Option.isSome_iff_exists.mp a;rw[qd e,e,b,Option.map_some,qd rfl]
  .rw [wW e];cases jX kvs j with
   | none=>rfl
   | some x=>rw[Option.map_some,wW e]
 .rw [wW a];refine z5M k j y kvs ?_;rw[z0g]at a;cases q:jX kvs k with
  | none=>rfl
  | some x=>rw[q]at a;exact(a rfl).elim
theorem z0Z(kvs:List (κ×V))(k:κ)(v:V):(putK kvs k v).length<=kvs.length+1:=by
 unfold putK;split
 .rw [w9];lia
 .rw [wm,wP,QN];lia
variable{kvs:List (κ×V)}
theorem z7A{k:κ}(v:V)(h:jX kvs k=none):putK kvs k v=kvs++[(k,v)]:=by
 unfold putK;rw[z0g,h];exact wW (by decide)
theorem z1S.isSome_eq{u:Option Value}(r:z1S o u):o.isSome=u.isSome:=by
 cases o with
 | none=>cases u with
  | none=>rfl
  | some _=>exact(show False from r).elim
 | some _=>cases u with
  | none=>exact(show False from r).elim
  | some _=>rfl
theorem z1S.getD{u:Option Value}{d:V}{d':Value}(r:z1S o u)(a:RelV d d'):RelV (o.getD d) (u.getD d'):=by
 cases o with
 | none=>cases u with
  | none=>exact a
  | some _=>exact(show False from r).elim
 | some _=>cases u with
  | none=>exact(show False from r).elim
  | some _=>exact r
variable{vs:List (κ×Value)}
theorem KV.val(r:KV kvs vs)(k:κ):z1S (jX kvs k) (valueAt vs k):=by
 unfold KV at r
 induction r with
 | nil=>exact w0e
 | @cons p q ps qs h t c=>
  obtain⟨h1,h2⟩:=h;by_cases e:p.1=k
  .have a:q.1=k:=h1.symm.trans e;have b:valueAt (q::qs) k=some q.2:=by simp[valueAt,w0T,a]
   rw[yB e,b];exact h2
  .have a:¬q.1=k:=λz=>e (h1.trans z)
   have b:valueAt (q::qs) k=valueAt qs k:=by simp[valueAt,w0T,a]
   rw[yF e,b];exact c
theorem KV.any(r:KV kvs vs)(k:κ):(kvs.any λkv=>decide (kv.1=k))=vs.any λkv=>decide (kv.1=k):=by
 unfold KV at r
 induction r with
 | nil=>rfl
 | cons h t a=>rw[w1I,w1I,a,h.1]
theorem KV.repl(r:KV kvs vs)(k:κ)(a:RelV y u):
  KV (kvs.map λkv=>if kv.1=k then(kv.1,y)else kv) (vs.map λkv=>if kv.1=k then(kv.1,u)else kv):=by
 unfold KV at r ⊢
 induction r with
 | nil=>exact .nil
 | @cons p q ps qs h t b=>
  rw[qF,qF];refine .cons ?_ b;obtain⟨h1,h2⟩:=h;by_cases e:p.1=k
  .rw [qd e,qd (h1.symm.trans e)];exact(h1,a)
  .rw [wW e,wW (λz=>e (h1.trans z))];exact(h1,h2)
theorem KV.put(r:KV kvs vs)(k:κ)(a:RelV y u):KV (putK kvs k y) (stored vs k u):=by
 unfold putK stored;rw[r.any k];by_cases e:(vs.any λkv=>decide (kv.1=k))=true
 .rw [qd e,qd e];exact r.repl k a
 .rw [wW e,wW e];exact Paired.snoc r (rfl,a)
theorem KV.keys(r:KV kvs vs):kvs.map (·.1)=vs.map (·.1):=by
 unfold KV at r
 induction r with
 | nil=>rfl
 | cons h t a=>rw[qF,qF,a,h.1]
theorem KV.length(r:KV kvs vs):kvs.length=vs.length:=Paired.length r
end
variable{P:Program}{w:World}
theorem z7g{k:Key}(r:RelV (kV k) u):(jw P w).is k u=true:=by
 cases k with
 | inl i=>obtain⟨t,e⟩:=(show∃t,u=Value.int i t from r);subst e;exact z7w P w i t
 | inr x=>obtain⟨t,e⟩:=(show∃t,u=Value.str x t from r);subst e;exact z7J P w x t
theorem z5L{P:Program}{w:World}:∀{ks:List Key} {us:List Value},zM (ks.map kV) us->ItemsAre (jw P w) ks us
 | [],_,r=>by rw[w1F]at r;cases r;exact .nil
 | k::ks,_,r=>by
  rw[qF]at r;cases r with
  | cons h t=>exact .cons (z7g h) (z5L t)
abbrev KT(H:Hp):List (List Key×V)->List (List Key×Addr×Value)->Prop:=Paired λp q=>p.1=q.1/\H q.2.1=some (.tup (p.1.map kV))/\RelV p.2 q.2.2
variable{xs:List (List Key×Addr×Value)}{kvs:List (List Key×V)}
theorem KT.val(r:KT H kvs xs)(k:List Key):z1S (jX kvs k) ((atKey xs k).map (·.2)):=by
 induction r with
 | nil=>exact w0e
 | @cons p q ps qs h t c=>
  obtain⟨h1,_,h2⟩:=h;by_cases e:p.1=k
  .have a:q.1=k:=h1.symm.trans e;have b:atKey (q::qs) k=some q.2:=by simp[atKey,w0T,a]
   rw[yB e,b];exact h2
  .have a:¬q.1=k:=λz=>e (h1.trans z)
   have b:atKey (q::qs) k=atKey qs k:=by simp[atKey,w0T,a]
   rw[yF e,b];exact c
theorem KT.repl(r:KT H kvs xs)(k:List Key)(b:RelV y u):
  KT H (kvs.map λkv=>if kv.1=k then(kv.1,y)else kv) (xs.map (putAt k u)):=by
 induction r with
 | nil=>exact .nil
 | @cons p q ps qs h t c=>
  rw[qF,qF];refine .cons ?_ c;obtain⟨h1,h2,a⟩:=h;unfold putAt;by_cases e:p.1=k
  .rw [qd e,qd (h1.symm.trans e)];exact(h1,h2,b)
  .rw [wW e,wW (λz=>e (h1.trans z))];exact(h1,h2,a)
theorem KT.put(r:KT H kvs xs)(k:List Key){b:Addr}(c:H b=some (.tup (k.map kV)))(a:RelV y u):
  KT H (putK kvs k y) (storedH xs k b u):=by
 have e:(kvs.any λkv=>decide (kv.1=k))=(atKey xs k).isSome:=by
  rw[z0g,(r.val k).isSome_eq,Option.isSome_map]
 unfold putK storedH;rw[e];by_cases q:(atKey xs k).isSome=true
 .rw [qd q,qd q];exact r.repl k a
 .rw [wW q,wW q];exact Paired.snoc r (rfl,c,a)
variable{H':Hp}
def KT.keeps(r:KT H kvs xs)(ht:∀b ys,H b=some (.tup ys)->H' b=some (.tup ys)):KT H' kvs xs:=
 Paired.mapP r λv v z=>(z.1,ht _ _ z.2.1,z.2.2)
variable{a:Addr}
section
variable{h:Heap}
def zeC{u:HO}(ok:HOk P w H h)(e:Rd H a u):jk P w H h a u:=e.ok ok
def z7a{kvs:List (Key×V)}(ok:HOk P w H h)(e:Rd H a (.dK kvs)):kvs.length<=sizeLine/\(a == sysModules)=false/\∃vs,KV kvs vs/\h.DictOf (jw P w) a vs:=
 show jk P w H h a (.dK kvs)from zeC ok e
def zbl{kvs:List (Key×V)}(ok:HOk P w H h)(e:H a=some (.dK kvs)):kvs.length<=sizeLine/\(a == sysModules)=false/\∃vs,KV kvs vs/\h.DictOf (jw P w) a vs:=z7a ok (.inl e)
theorem z6F{ks:List Key}(ok:HOk P w H h)(e:H a=some (.tup (ks.map kV))):(tupleKind (jw P w)).is h ks a:=by
 obtain⟨_,its,r,o,h1,h2,n,b⟩:=(show jk P w H h a (.tup (ks.map kV))from ok a _ e);exact(o,its.toArray,n,h1,h2,b,by simpa using z5L r)
theorem z89(ok:HOk P w H h)(e:Rd H a (.dT kvs)):kvs.length<=sizeLine/\(a == sysModules)=false/\
  ∃xs,KT H kvs xs/\h.DictOfH (tupleKind (jw P w)) a xs:=by
 obtain⟨z,y,xs,r,o,es,ep,h1,h2,b,f,c⟩:=(show jk P w H h a (.dT kvs)from zeC ok e);refine(z,y,xs,r,o,es,ep,h1,h2,b,f,λx hx=>?_,c);have all:∀{l:List (List Key×V)} {m:List (List Key×Addr×Value)},KT H l m->∀x∈m,(tupleKind (jw P w)).is h x.1 x.2.1:=by
  intro l m q
  induction q with
  | nil=>intro x hx;exact nomatch hx
  | @cons p q ps qs hq t d=>
   intro x hx;rcases wL.mp hx with e|hx
   .subst e;exact z6F ok (by rw[<-hq.1];exact hq.2.1)
   .exact d x hx
 exact all r x hx
def zg3(ok:HOk P w H h)(e:H a=some (.dT kvs)):kvs.length<=sizeLine/\(a == sysModules)=false/\
  ∃xs,KT H kvs xs/\h.DictOfH (tupleKind (jw P w)) a xs:=z89 ok (.inl e)
end
def z4e(H:Hp)(a:Addr)(y:V)(r:Option V):Prop:=
 (∃kvs k,Rd H a (.dK kvs)/\y=kV k/\r=jX kvs k)\/∃kvs k b,Rd H a (.dT kvs)/\y= .ref b/\H b=some (.tup (k.map kV))/\r=jX kvs k
def z8B(H:Hp)(a:Addr)(y v:V)(H':Hp):Prop:=
 (∃kvs k,H a=some (.dK kvs)/\y=kV k/\kvs.length<sizeLine/\H'=upd H a (.dK (putK kvs k v)))\/
 ∃kvs k b,H a=some (.dT kvs)/\y= .ref b/\H b=some (.tup (k.map kV))/\kvs.length<sizeLine/\H'=upd H a (.dT (putK kvs k v))
theorem z4e.k{H:Hp}{a:Addr}{kvs:List (Key×V)}{k:Key}(e:H a=some (.dK kvs)):z4e H a (kV k) (jX kvs k):= .inl (kvs,k,.inl e,rfl,rfl)
theorem z8B.k{H:Hp}{a:Addr}{kvs:List (Key×V)}{k:Key}{v:V}(e:H a=some (.dK kvs))(hl:kvs.length<sizeLine):z8B H a (kV k) v (upd H a (.dK (putK kvs k v))):= .inl (kvs,k,e,rfl,hl,rfl)
variable{E Q:Value->Shared->Prop}{h':Heap}
section
variable{σ:St}{v:V}{r:Value}
theorem Inv.big(I:Inv X pins σ H s):sysModules<s.heap.objs.size:=by
 have h:mainGlobals<s.heap.objs.size:=(I.mod.glob.keeps I.bk).lt;exact Nat.lt_trans (by decide) h
theorem zan(q:A.units+1<cLine)(I:Inv X pins σ H s)(g:z4e H a y (some v))(j:RelV y u)(h:∀c s',Inv X pins σ H s'->RelV v c->Q c s'):
  wpAny (model X.prog X.w) A (getItem (.ref a) u) Q E s:=by
 rcases g with⟨kvs,k,e,ey,l⟩|⟨kvs,k,b,e,ey,eb,l⟩
 .subst ey;obtain⟨z,hd,vs,rel,i⟩:=z7a I.hok e;obtain⟨c,f,d⟩:=z1S.some_of (v:=v) (o:=valueAt vs k) (by rw[l];exact rel.val k);exact wpAny_getItem_of (z7g j) i.mapOf f (h c _ (I.tok _) d)
 .subst ey;cases (show u=Value.ref b from j);obtain⟨z,hd,xs,rel,i⟩:=z89 I.hok e;obtain⟨c,f,d⟩:=z1S.some_of (v:=v) (o:=(atKey xs k).map (·.2)) (by rw[l];exact rel.val k);obtain⟨p,hp,n⟩:=Option.map_eq_some_iff.mp f;refine wpAny_getItem_heap (tupleKind_room_in1 q) (z6F I.hok eb) i hp ?_;rw[n];exact h c _ (I.tok _) d
def z6v{c:HO}(I:Inv X pins σ H s)(d:Mut (H a))(hs:Heap.SameBut a s.heap h')(he:∃q,h'.get? a=some q)(new:jk X.prog X.w (upd H a c) h' a c):
  Inv X pins σ (upd H a c) {s with heap:=h',toks:=t'}:=
 I.write (x:=a) (e:=a) d (.inl rfl) (λb q f z=>(hs.2 b f).trans z) he new
def zcx{kvs:List (Key×V)}{vs:List (Key×Value)}(z:kvs.length<=sizeLine)(hd:(a == sysModules)=false)(rel:KV kvs vs)(b:h'.DictOf (jw P w) a vs):
  jk P w H' h' a (.dK kvs):=(z,hd,vs,rel,b)
theorem zaS{Q:Unit->Shared->Prop}(t:A.units+1<cLine)(I:Inv X pins σ H s)(g:z8B H a y v H')(j:RelV y u)(i:RelV v r)(h:∀s',Inv X pins σ H' s'->Q () s'):
  wpAny (model X.prog X.w) A (setItem (.ref a) u r) Q E s:=by
 rcases g with⟨kvs,k,e,ey,l,eH⟩|⟨kvs,k,b,e,ey,eb,l,eH⟩
 .subst ey eH;obtain⟨z,hd,vs,rel,f⟩:=zbl I.hok e;have hz:vs.length<=sizeLine:=by rw[<-rel.length];exact z
  have hl:(putK kvs k v).length<=sizeLine:=by have:=z0Z kvs k v;lia
  refine wpAny_setItem_pairs (hsz:=hz) (z7g j) f λh' d hs=>h _ ?_
  have he:∃q,h'.get? a=some q:=let ⟨q,_,_,hq,_⟩:=d;(q,hq)
  exact z6v I (by rw[e];exact w0e) hs he (zcx hl hd (rel.put k i) d)
 .subst ey eH;cases (show u=Value.ref b from j);obtain⟨z,hd,xs,rel,f⟩:=zg3 I.hok e;have hz:xs.length<=sizeLine:=by rw[<-Paired.length rel];exact z
  have hl:(putK kvs k v).length<=sizeLine:=by have:=z0Z kvs k v;lia
  refine wpAny_setItem_heap (hsz:=hz) (tupleKind_room_in1 t) (z6F I.hok eb) f λh' d hs=>h _ ?_
  obtain⟨q,es,ep,hq,h2,o,x,_,p⟩:=d;refine z6v I (by rw[e];exact w0e) hs (q,hq) (hl,hd,_,(rel.put k eb i).keeps λc ys n=>?_,q,es,ep,hq,h2,o,x,p);rw[zj (z40 n e (λz=>nomatch z))];exact n
end
def zgu(i:Expr):Prop:=∀b a,subscripted i false b a=operate [b,a] (getItem b a)
theorem zdU{prog:Program}{env:Env}{value slice:Expr}{pos:Pos}{id:String}
  (hl:typeLookup (.type T) "__getitem__"=pure (some (.builtin id))) (hs:zgu slice)
  (h:wpAny (model prog w) A (eval value env) (λo e=>wpAny (model prog w) A (eval slice env) (λi a=>a.TypeIs o T/\wpAny (model prog w) A (getItem o i) Q E a) E e) E s):
  wpAny (model prog w) A (eval (.Subscript value slice pos) env) Q E s:=by
 refine Subscript_ (Qa h (λo e j=>Qa j (λi a d=>?_) λv v x=>x) λv v x=>x);obtain⟨f,d⟩:=d;unfold subscriptTail;refine wD ?_;rw[getitemInPython_of_ne f.not_modules];refine wD (wpAny_specialOf f hl ?_);have fin:wpAny (model prog w) A (subscripted slice false o i) (λr b=>wpAny (model prog w) A (letTemporaryGo value o r >>= λv=>pure r) Q E b) E a:=by
  rw[hs o i];exact wpAny_operating (Qa d (λr b c=>wD (wpAny_letTemporaryGo (q9 c))) λv v x=>x)
 first
  | exact q9 (wD fin)
  | exact wD (q9 (wD fin))
  | exact wD fin
theorem z83{σ:St}(I:Inv X pins σ H s)(g:z4e H a y o):s.TypeIs (.ref a) "dict":=by
 rcases g with⟨kvs,k,e,_,_⟩|⟨kvs,k,b,e,_,_,_⟩
 .obtain⟨_,_,vs,_,c⟩:=z7a I.hok e;exact c.typeIs
 .obtain⟨_,_,xs,_,c⟩:=z89 I.hok e;exact c.typeIs
def zfW(td ty:TE):TE:=λσ H Q=>td σ H λx H1=>ty σ H1 λy H2=>∃a v,x= .ref a/\z4e H2 a y (some v)/\Q v H2
def zgq(td ty tv:TE):TS:=λD σ H=>tv σ H λv H1=>td σ H1 λx H2=>ty σ H2 λy b=>∃a H4,x= .ref a/\z8B b a y v H4/\D.nx σ H4
section
variable{o i value:Expr}{pos pos' oX:Pos}{td ty tv:TE}
theorem z9o(l:X.A.units+1<cLine)(e:PE X o td)(hi:PE X i ty)(hs:zgu i):PE X (.Subscript o i pos) (zfW td ty):=by
 intro pins s σ H Q I h;refine zdU PySem.F.slot_dict_getitem.lookup hs (thn (e pins s σ H _ I h) ?_);rintro u s1 ⟨x,H1,f,c,q1⟩;refine thn (hi pins s1 σ H1 _ f q1) ?_;rintro r s2 ⟨y,H2,b,j,a,v,ex,g,p⟩;subst ex;obtain rfl:u=Value.ref a:=c;exact(z83 b g,zan l b g j λt q d n=>(v,H2,d,n,p))
theorem z6C(l:X.A.units+1<cLine)(d:PE X o td)(hi:PE X i ty)(q:PE X value tv)(hs:swapsWith value (some (.Subscript o i pos')) pos.line X.env=pure false):
  PS X (.Assign [.Subscript o i pos'] value pos) (zgq td ty tv):=by
 intro pins s σ H D I h;refine wpAny_Assign_Subscript (thn (q pins s σ H _ I h) ?_) hs;rintro r s1 ⟨v,H1,e,f,q1⟩;refine thn (d pins s1 σ H1 _ e q1) ?_;rintro u s2 ⟨x,H2,t,b,w⟩;refine thn (hi pins s2 σ H2 _ t w) ?_;rintro C z ⟨y,B,c,j,a,H4,ex,g,p⟩;subst ex;obtain rfl:u=Value.ref a:=b;exact zaS l c g j f λE n=>(σ,H4,n,p)
end
def zcb(h:Heap)(a:sysModules<h.objs.size):jk P w H (h.push {cls:= .type "dict",data:= .dict #[]}) h.objs.size (.dK []):=
 (qU _,w0x.mpr (w1G (qc a)),[],.nil,Heap.DictOf.new h)
def zfk:TE:=λv H Q=>∀p,H p=none->Q (.ref p) (upd H p (.dK []))
section
variable{pos:Pos}
def z3t:PE X (.Dict [] [] pos) zfk:=λpins s σ H Q I h=>
 wpAny_Dict_empty (.ref s.heap.objs.size,_,I.laid (a:=s.heap.objs.size) (o:= .dK []) (t':=s.toks) (λv v q=>wu _ q) (wA _) (zcb s.heap I.big),rfl,h _ (I.hok.fresh (wA _)))
end
structure M1(X:Cx)(o:Expr)(m:Str)(apos:Pos)(e:Expr)(ad:Pos):Prop where
 base:attributeBase o m X.env (eval o X.env)=eval o X.env
 few:((backTo ad (starEach [e] X.env)).all (λx=> !x.1)&&(backToKw ad (keywordEach [] X.env)).all (λx=>x.1.isSome)
  && decide (([e]:List Expr).length+([]:List Keyword).length+(if([]:List Keyword).isEmpty then 0 else 1)<30))=true
 line:(apos.endLine == ad.line)=true
 trees:backTo ad (starEach [e] X.env)= [(false,eval e X.env)]
structure M2(X:Cx)(o:Expr)(m:Str)(apos:Pos)(e f:Expr)(ad:Pos):Prop where
 base:attributeBase o m X.env (eval o X.env)=eval o X.env
 few:((backTo ad (starEach [e,f] X.env)).all (λx=> !x.1)&&(backToKw ad (keywordEach [] X.env)).all (λx=>x.1.isSome)
  && decide (([e,f]:List Expr).length+([]:List Keyword).length+(if([]:List Keyword).isEmpty then 0 else 1)<30))=true
 line:(apos.endLine == ad.line)=true
 trees:backTo ad (starEach [e,f] X.env)= [(false,eval e X.env),(false,eval f X.env)]
def IsD(H:Hp)(a:Addr):Prop:=(∃kvs,Rd H a (.dK kvs))\/∃kvs,Rd H a (.dT kvs)
theorem zbf{σ:St}(I:Inv X pins σ H s)(d:IsD H a):
  s.TypeIs (.ref a) "dict"/\(∀b,Value.ref a= .ref b->∃c,s.heap.get? b=some c/\c.dict=none)/\(a == sysModules)=false:=by
 rcases d with⟨kvs,e⟩|⟨kvs,e⟩
 .obtain⟨_,hd,vs,_,f⟩:=z7a I.hok e;refine(f.typeIs,λb q=>?_,hd);cases q;obtain⟨c,_,_,h1,h2,_⟩:=f;exact(c,h1,h2.2.1)
 .obtain⟨_,hd,xs,_,f⟩:=z89 I.hok e;refine(f.typeIs,λb q=>?_,hd);cases q;obtain⟨c,_,_,h1,h2,_⟩:=f;exact(c,h1,h2.2.1)
section
variable{σ:St}{d:V}{r:Value}
theorem zf9(n:A.units+1<cLine)(I:Inv X pins σ H s)(g:z4e H a y o)(j:RelV y u)(f:RelV d r)(h:∀i s',Inv X pins σ H s'->RelV (o.getD d) i->Q i s'):
  wpAny (model X.prog X.w) A (call (.builtin "dict.get") [.ref a,u,r]) Q E s:=by
 rcases g with⟨kvs,k,e,ey,l⟩|⟨kvs,k,b,e,ey,eb,l⟩
 .subst ey;obtain⟨z,hd,vs,rel,c⟩:=z7a I.hok e;refine call_meetsIn PySem.F.slot_dict_get c.typeIs PySem.F.entry_dict_get (PySem.F.args_dict_get_3 _ _ _) (meets_dict_get_default (jw X.prog X.w) a (z7g j) hd r) (_,c.mapOf,h _ _ (I.tok _) ?_);rw[l];exact(rel.val k).getD f
 .subst ey;cases (show u=Value.ref b from j);obtain⟨z,hd,xs,rel,c⟩:=z89 I.hok e;refine call_meetsIn PySem.F.slot_dict_get c.typeIs PySem.F.entry_dict_get (PySem.F.args_dict_get_3 _ _ _) (meetsH_dict_get_default (tupleKind (jw X.prog X.w)) a b hd r) (tupleKind_room_in1 n,k,xs,z6F I.hok eb,c,h _ _ (I.tok _) ?_);rw[l];exact(rel.val k).getD f
end
def zfh(td ty tx:TE):TE:=λσ H Q=>td σ H λx H1=>∃a,x= .ref a/\IsD H1 a/\ty σ H1 λy H2=>tx σ H2 λz b=>∃o,z4e b a y o/\Q (o.getD z) b
section
variable{o f:Expr}{apos ad:Pos}{td ty tx:TE}
theorem z55(r:X.A.units+1<cLine)(p:PE X o td)(he:PE X e ty)(C:PE X f tx)(m:M2 X o "get" apos e f ad):PE X (.Call (.Attribute o "get" apos) [e,f] [] ad) (zfh td ty tx):=by
 intro pins s σ H Q I h;refine wpAny_Call_method m.base m.few m.line PySem.F.plainAttrs_dict PySem.F.slot_dict_get PySem.F.type_dict_get (thn (p pins s σ H _ I h) ?_);rintro u s1 ⟨x,H1,b,i,a,ex,d,q1⟩;subst ex;obtain rfl:u=Value.ref a:=i;obtain⟨n,D,_⟩:=zbf b d;refine(n,D,?_);rw[m.trees];refine w18 rfl (Calls.evalArgs_plain (Qv (thn (he pins s1 σ H1 _ b q1) λM s2 ⟨y,H2,E,q,G⟩=>
  Qv (thn (C pins s2 σ H2 _ E G) λJ K ⟨z,j,l,c,L,g,B⟩=>w0v ?_))))
 exact zf9 r l g q c λO N w t=>(_,j,w,t,B)
end
end L2
namespace Att
open PySem PySem.W PySem.Calls PyProof.Rows
variable{P:Params}{h:Heap}
theorem z4k:∀(ns:List Int) (vs:List Value),WellAll P h vs (ns.map WData.int)->IntsAre vs ns:=by
 intro ns
 induction ns with
 | nil=>
  intro vs w;rw[w1F]at w;cases w;exact .nil
 | cons n ns c=>
  intro vs w;rw[qF]at w;cases w with
  | cons a b=>
   cases a;exact .cons _ _ (c _ b)
variable{l:OpenLaw}{n:Nat}
theorem zay(hn:l.most=some n){args:List WData}{vals:List Value}
  (e:l.row.toRowW.claim.pre args=true) (i:WellAll P h vals args):
  ∃a vs ns,vals= [Value.ref a]/\args= [WData.list (ns.map WData.int)]/\h.get? a=some {cls:= .type "list",data:= .seq vs.toArray}/\IntsAre vs ns/\ns.length<=n:=by
 have o:WShape.hasAll [] args [.list .int]=true:=(pre_splitW e).1;have hc:l.pre.holds [] {args:=args}=true:=(pre_splitW e).2;obtain⟨d,r,rfl,h1,h2⟩:=hasAllW_cons o;obtain rfl:=hasAllW_nil h2;obtain⟨xs,rfl,f⟩:=hasW_list h1;obtain⟨ns,rfl⟩:=items_int f;have hlen:ns.length<=n:=by
  unfold OpenLaw.pre at hc;have c:(WTm.not (.lt (.lit (.int (n:Int))) (.len (.arg 0)))).holds [] {args:= [.list (ns.map .int)]}=true:=by
   have c:=(holds_andW hc).1;rw[hn]at c;exact c
  have b:=condW_of c (w_not (w_lt w_lit (w_len_list (w_arg rfl))));rw[w9]at b;refine Nat.le_of_not_lt λq=>?_
  have q':(n:Int)<((ns.length:Nat):Int):=by lia
  first
   | (rw[wN q']at b;exact absurd b (by decide))
   | (simp at b;lia)
 cases i with
 | cons w1 w2=>
  cases w2;cases w1 with
  | list j p=>exact(_,_,ns,rfl,rfl,j,z4k ns _ p,hlen)
theorem zaU(l:OpenLaw)(args:List WData):l.row.toRowW.claim.post args (.bool true) args=true:=
 postW_of (r:=l.row.toRowW) (X:=(true == true))
  (show WShape.has [] (.bool true) .bool=true by first|rfl|decide|simp[WShape.has,WShape.arms,WShape.armsAll])
  (show(WTm.eq .res (.lit (.bool true))).value [] {args:=args,res:=some (.bool true),after:=args}=some (.bool (true == true))from w_eq_bool (w_res rfl) w_lit) rfl
theorem attach_call{q:Program}{loose:List Str}{h:(Str->Option Value)->Heap->Prop}{i:World->Heap->Prop}{d:DefRec}
  (hn:l.most=some n) (y:d.params.defaults= [])
  (call:∀(w:World) (s₀ b:Shared) (mg mb:Str->Option Value) (c:Addr) (o:Obj) (pm cd aQ:Value) (a:Addr) (vs:List Value) (ns:List Int),
   Ground q loose [] h w s₀ mg mb b.heap->i w b.heap->
   b.heap.get? c=some o->o.data= .func (docDef d.name d.params d.body d.scope pm cd aQ)->b.heap.CodeRec cd d.name->mg d.name=some (.ref c)->
   b.heap.get? a=some {cls:= .type "list",data:= .seq vs.toArray}->IntsAre vs ns->ns.length<=n->b.gens= #[]->
   codeAny (model l.prog w) callerA (.call (.ref c) ([.ref a],[])) (λr s'=>r= .ok (.ret (.bool true))/\OldK b.heap s'.heap/\s'.os=b.os/\AllBare s'.gens) b):
  WalkO q loose h i l.row.toRowW d [] (λf vs=>PySem.call f vs):=by
 intro w s₀ b mg mb G Y c o pm cd aQ u kV s hd C e x A args vals E t F D p H;obtain rfl:u= .none:=Dflts.none e y;obtain rfl:kV= .none:=Dflts.noKw e;obtain⟨a,vs,ns,rfl,rfl,z,hints,hlen⟩:=zay hn t p;refine enter_call (w0n (call w s₀ b mg mb c o pm cd aQ a vs ns G Y s (fd_plain hd) C x z hints hlen A) λr s' hq=>?_);obtain⟨rfl,h2,j,B⟩:=hq;exact(.inl (.bool true,.bool true,[],rfl,λv=>rfl,.bool true,zaU l _,λv=>(List.Pairwise.nil,λv hm=>(nomatch hm))),h2,j,B)
end Att
namespace L2
open PySem PySem.Spec PyProof.Rows
def z5W:∀{vs:List Value} {ns:List Int},IntsAre vs ns->zM (ns.map V.int) vs
 | _,_,.nil=> .nil
 | _,_,.cons n t h=> .cons (t,rfl) (z5W h)
noncomputable def z0B(s:Stmt):Arguments:=match s with
 | .FunctionDef _ a _ _ _ _ _ _ _ _=>a
 | _=>{posonlyargs:= [],args:= [],vararg:=none,kwonlyargs:= [],kw_defaults:= [],kwarg:=none,defaults:= []}
noncomputable def jO(s:Stmt):List Stmt:=match s with
 | .FunctionDef _ _ b _ _ _ _ _ _ _=>b
 | _=> []
noncomputable def zi(s:Stmt):Scope:=match s with
 | .FunctionDef _ _ _ _ _ _ sc _ _ _=>sc
 | _=>{kind:= .function,names:= [],isGenerator:=false,isCoroutine:=false}
abbrev CX0:CXT:=λv v v v v v=>False
abbrev E0:XK:=λv v v=>False
variable{X:Cx}
def z2N:z1t CX0 X E0:=λv v v v v v v h=>h.elim
structure Fun(K:W.Frag)(x qual:Str)(st:Stmt)(f:Addr)(fd:FuncData):Prop where
 ex:∃(oc:Value) (od:Option Addr) (kV aQ pm:Value) (an:Option Addr) (aa ct:Value) (cK:Array (Option Value)),
  fd=PySem.W.fnOf x qual (z0B st) (jO st) (zi st) .none kV aQ pm an aa ct/\K.lookup f=some (oc,od,.func fd,cK)/\PySem.W.codeIn K aa qual=true
 kp:PySem.W.keepIn K (.ref f)=true
variable{x qual:Str}{st:Stmt}{f:Addr}{fd:FuncData}
section
variable{P:Program}{w:World}{K:W.Frag}{mg:Str->Option Value}{base:Heap}{ps:List Str}
theorem Fun.ok{N:List Str}{k:Nat}{sp:Sp}(F:Fun K x qual st f fd)(S:FnScope N ps (zi st))(len:∀vs H Q E,sp vs H Q E->vs.length=ps.length)
  (a:∀(aa:Value) (A:Around) (outer:List Env) (s:Shared) (H:Hp) (vs:List V) (Q:VK) (E:XK),Room k (A.deeper (envOfC qual (zi st) s.heap.objs.size f aa))->sp vs H Q E->
   ∃t,PSs (z3k CX0 P w K mg base N qual (zi st) f aa A outer s H E).nox (jO st) t/\t {nx:=λv H'=>Q .non H',rt:=Q} (start N vs) H):FnOk P w K mg base CX0 (k+1) f fd ps sp:=by
 obtain⟨oc,od,kV,aQ,pm,an,aa,ct,cK,rfl,c,d⟩:=F.ex;refine zez c d S len λA outer s H vs Q E hr b=>?_
 obtain⟨t,h,q⟩:=a aa A outer s H vs Q E hr b;exact(t,h.nox,q)
theorem Fun.binds(F:Fun K x qual st f fd)
  (h:∀(kV aQ pm:Value) (an:Option Addr) (aa ct:Value) (us:List Value),us.length=ps.length->bindArgs (PySem.W.fnOf x qual (z0B st) (jO st) (zi st) .none kV aQ pm an aa ct) (us,[])=pure (ps.zip us)):Binds K fd ps []:=by
 obtain⟨oc,od,kV,aQ,pm,an,aa,ct,cK,rfl,b,a⟩:=F.ex;exact .all (h kV aQ pm an aa ct)
def z6r{oc:Value}{od an:Option Addr}{cK:Array (Option Value)}{kV aQ pm aa ct:Value}(l:K.lookup f=some (oc,od,.func (PySem.W.fnOf x qual (z0B st) (jO st) (zi st) .none kV aQ pm an aa ct),cK))
  (c:PySem.W.codeIn K aa qual=true) (k:PySem.W.keepIn K (.ref f)=true):Fun K x qual st f (PySem.W.fnOf x qual (z0B st) (jO st) (zi st) .none kV aQ pm an aa ct):=((oc,od,kV,aQ,pm,an,aa,ct,cK,rfl,l,c),k)
end
theorem z1P{A:Around}{k:Nat}(hr:Room k A):A.units+1<cLine:=Nat.lt_of_le_of_lt (Nat.add_le_add_left (by decide:1<=64) _) hr.units
theorem pv(i:Nat){pos:Pos}(c:(X.N[i]? =some x)⁻¹)(a:autoParam (Vis X.env.scope x) z_c._auto_1)(hd: ~~~((x == ("__debug__":Str))=false))
  (b: ~~~((x == ("__classdict__":Str))=false)):PE X (.Name x pos) (z7C i):=z2Z c a hd b
variable{A B:Prop}
theorem z9a(h:B):if false=true then A else B:=by
 rw[wW wU];exact h
theorem z8W(h:A):if true=true then A else B:=by
 rw[qd rfl];exact h
theorem k7{c:Prop} [Decidable c] (h1:c->A)(h2:¬c->B):if c then A else B:=by
 by_cases h:c
 .rw [qd h];exact h1 h
 .rw [wW h];exact h2 h
def zw(H H':Hp):Prop:=∀b o,H b=some o->H' b=some o
def zw.refl(H:Hp):zw H H:=λv v h=>h
variable{H:Hp}
theorem zw.trans{H1 H2:Hp}(a:zw H H1)(b:zw H1 H2):zw H H2:=λc o h=>b c o (a c o h)
theorem zw.free{H':Hp}(e:zw H H'){l:Addr}(h:H' l=Option.none):H l=Option.none:=by
 cases q:H l with
 | none=>rfl
 | some o=>
  rw[e l o q]at h;cases h
theorem zw.seq{K:W.Frag}{H':Hp}{a:Addr}{xs:List V}(e:zw H H')(h:SqL K H a xs):SqL K H' a xs:=by
 rcases h with(h|⟨o,h⟩)|h
 .exact .inl (.inl (e _ _ h))
 .exact .inl (.inr (o,e _ _ h))
 .exact .inr h
section
variable{κ:Type}[DecidableEq κ]{kvs:List (κ×V)}
theorem zbQ{k:κ}(h:jX kvs k=none):¬k∈kvs.map (·.1):=by
 intro m;obtain⟨p,hp,e⟩:=qx.mp m;have q:(kvs.any λkv=>decide (kv.1=k))=true:=QP.mpr (p,hp,wN e);rw[z0g,h]at q;exact absurd q (by simp)
theorem zea{k:κ}{v:V}(h:jX kvs k=some v):k∈kvs.map (·.1):=by
 have q:(kvs.any λkv=>decide (kv.1=k))=true:=by
  rw[z0g,h]
  all_goals rfl
 obtain⟨p,hp,e⟩:=QP.mp q;exact qx.mpr (p,hp,qD e)
theorem z6K:∀{l:List κ} {k:κ},l.Nodup->¬k∈l->(l++[k]).Nodup
 | [],k,_,_=>by simp
 | a::r,k,h,b=>by
  obtain⟨h1,h2⟩:=w0a.mp h
  show(a::(r++[k])).Nodup
  refine w0a.mpr (λm=>?_,z6K h2 λm=>b (wL.mpr (QV m)));rcases wE.mp m with q|q
  .exact h1 q
  .exact b (wL.mpr (w0g (ww.mp q).symm))
end
end L2

namespace L2
open PySem PySem.Spec PyProof.Rows
variable{H:Hp}
theorem zz{p:Addr}(h:H p=none)(o:HO):zw H (upd H p o):=λb u q=>by rw[zj (zq q h)];exact q
variable{l:Addr}{o:HO}
theorem zw.put{H':Hp}(e:zw H H')(h:H l=none):zw H (upd H' l o):=λb u q=>by
 rw[zj (zq q h)];exact e b u q
def Kp(l:Addr)(H H':Hp):Prop:=∀b o,b≠l->H b=some o->H' b=some o
def Kp.refl:Kp l H H:=λv v v h=>h
theorem Kp.trans{H1 H2:Hp}(a:Kp l H H1)(b:Kp l H1 H2):Kp l H H2:=λc o n h=>b c o n (a c o n h)
def zw.kp{H':Hp}(e:zw H H'):Kp l H H':=λb o v h=>e b o h
theorem z2V:Kp l H (upd H l o):=λb u n h=>by rw[zj n];exact h
variable{n:Nat}
theorem jb(h:n<=1000000):n<=sizeLine:=by
 have:sizeLine=16777216:=Qq
 lia
theorem zG(h:n<=1000000):n<sizeLine:=by
 have:sizeLine=16777216:=Qq
 lia
variable{X:Cx}
theorem zI:ki X (.builtin "isinstance") (λxs H Q=>∃x n t b,xs= [x,.ty n]/\TyOf X.K H x t/\PySem.W.kitOne X.K t (.type n)=some b/\Q (.bl b) H):=by
 intro pins s σ H xs us Q I r h;obtain⟨x,n,t,b,rfl,ty,e,q⟩:=h;obtain⟨u,d,rfl,a,c⟩:=vals2 r;cases (show d=Value.type n from c);exact zak I a ty e λtk=>(.bl b,H,I.tok _,rfl,q)
variable{K:W.Frag}
theorem jr{n:String}:PySem.W.kitOne K (.type n) (.type n)=some true:=by
 unfold PySem.W.kitOne;rw[qd (w0j _)]
theorem kh:PySem.W.kitOne K (.type "int") (.type "str")=some false:=by kernel_rfl
theorem z08:PySem.W.kitOne K (.type "str") (.type "tuple")=some false:=by kernel_rfl
theorem z05:PySem.W.kitOne K (.type "int") (.type "tuple")=some false:=by kernel_rfl
theorem z77:PySem.W.kitOne K (.type "int") (.type "bool")=some false:=by kernel_rfl
def zbD(K:W.Frag):V->List V->Hp->VK->Prop:=λx vs H Q=>∃l xs y j,x= .ref l/\vs= [y]/\SqL K H l xs/\ko y=true/\xs.all ko=true/\
 (∃z,xs[j]? =some z/\eqV z y=true)/\(∀m z,m<j->xs[m]? =some z->eqV z y=false)/\Q (.int ((j:Nat):Int)) H
theorem yf:MtM X "list.index" (zbD X.K):=by
 intro pins s σ H x vs v us Q I o p h;obtain⟨l,xs,y,j,rfl,rfl,hq,t,fs,⟨z,hz,E⟩,f,q⟩:=h;cases o;obtain⟨u,rfl,B⟩:=p.one;obtain⟨its,r,pl,hsz⟩:=I.list hq;obtain⟨⟨cls,C,data,sl⟩,e,hc,n,hd⟩:=pl.isList;simp only at hc hd;subst hc hd;have hl:=r.length;have hn:=z2W;have J:j<xs.length:=(wg.mp hz).1;have i:j<its.length:=by lia
 refine w20 qG (_,e,rfl) PySem.F.entry_list_index (PySem.F.args_list_index_2 _ _)
  (SeqAt.list_indexAt l its.toArray n C sl u (eqU y) j (by rw[wB];exact i) (by lia) ?_ ?_) (e,λw D=>z1n B t r fs w (by simpa using D),(.int ((j:Nat):Int),H,I.tok _,(_,rfl),q))
 .obtain⟨w,c,b⟩:=r.get hz;have a:its[j]=w:=(wg.mp c).2
  show eqU y its[j]=true
  rw[a,z6p b (qS.mp fs z (qN hz))];exact E
 .intro m hm A;have L:m<its.length:=by rw[wB]at hm;exact hm
  have G:m<xs.length:=by lia
  have d:xs[m]? =some xs[m]:=we G;obtain⟨w,c,b⟩:=r.get d;have a:its[m]=w:=(wg.mp c).2
  show eqU y its[m]=false
  rw[a,z6p b (qS.mp fs _ (qN d))];exact f m _ A d
def zeL(K:W.Frag):R2:=λx y H Q=>∃a b xs,x= .ref a/\y= .ref b/\SqL K H a xs/\SqL K H b []/\Q (.bl xs.isEmpty) H
theorem z53(p:X.A.units+1<cLine):OpR X (compareOp .Eq) (zeL X.K):=by
 intro pins s σ H x y v u Q I i n h;have d:X.A.units<cLine:=by lia
 obtain⟨a,b,xs,rfl,rfl,ha,o,q⟩:=h;cases i;cases n;obtain⟨its,r,pl,hz⟩:=I.list ha;obtain⟨l,r2,c,_⟩:=I.list o;have f:l= []:=r2.zero;subst f;cases r with
 | nil=>exact SeqAt.eq_listAt (e:=λt=>true) pl.isList c.isList rfl d (λj h1 t=>absurd h1 (by simp)) (.bl true,H,I,by simp[RelV],q)
 | cons r1 r2=>exact SeqAt.eq_list_lengthsAt pl.isList c.isList (by simp) d (.bl false,H,I,rfl,q)
variable{c:Bool}
theorem ifT{A B:Prop}(h:c=true)(a:A):if c=true then A else B:=by rw[qd h];exact a
theorem ifF{A B:Prop}(h:c=false)(b:B):if c=true then A else B:=by rw[wW (by rw[h];exact wU)];exact b
theorem qbl{Q:VK}{a b:Bool}(e:a=b)(q:Q (.bl b) H):Q (.bl a) H:=by rw[e];exact q
theorem z3o{i j:Int}:decide (V.int i=V.int j)=decide (i=j):=by
 rw[w09];simp
theorem j6{i j:Str}:decide (V.str i=V.str j)=decide (i=j):=by
 rw[w09];simp
section
variable{a b:Expr}{ta tb:TE}{pos:Pos}{tA fo:TT}
def zgh(ta tb:TE):TE:=λσ H Q=>ta σ H λx H1=>∃c,x= .bl c/\∃d,(tb σ H1 λy H2=>y= .bl d/\H2=H1)/\Q (.bl (c&&d)) H1
theorem zdY(ha:PE X a ta)(j:PE X b tb):PE X (.BoolOp .And [a,b] pos) (zgh ta tb):=by
 intro pins s σ H Q I h;refine BoolOp_and (thn (ha pins s σ H _ I h) ?_);rintro v s1 ⟨x,H1,f,r1,q1⟩;obtain⟨c,rfl,d,n,q1⟩:=q1;cases r1;refine w0t ?_;cases c with
 | true=>
  refine BoolOp_one (thn (j pins s1 σ H1 _ f n) ?_);rintro v2 s2 ⟨y,H2,l,r2,e,i⟩;subst e i;exact(.bl d,H2,l,r2,by rw[w1J]at q1;exact q1)
 | false=>exact(.bl false,H1,f,rfl,by rw[w1p]at q1;exact q1)
def zgC(tA tB:TT):TT:=λσ H Q=>tA σ H λc H1=>∃d,(tB σ H1 λd' H2=>d'=d/\H2=H1)/\Q (c&&d) H1
def zgG(tA tB:TT):TT:=λσ H Q=>tA σ H λc H1=>∃d,(tB σ H1 λd' H2=>d'=d/\H2=H1)/\Q (c||d) H1
theorem z3n(ha:PT X a tA)(n:PT X b fo):PT X (.BoolOp .And [a,b] pos) (zgC tA fo):=by
 intro pins s σ H Q I h;refine isTrue_and (thn (ha pins s σ H _ I h) ?_);rintro c s1 ⟨H1,f,d,o,q1⟩;cases c with
 | true=>
  refine isTrue_and (thn (n pins s1 σ H1 _ f o) ?_);rintro l s2 ⟨H2,i,e,j⟩;subst e j;rw[w1J]at q1;cases l with
  | true=>exact isTrue_and_nil (H2,i,q1)
  | false=>exact(H2,i,q1)
 | false=>exact(H1,f,by rw[w1p]at q1;exact q1)
theorem z1u(ha:PT X a tA)(n:PT X b fo):PT X (.BoolOp .Or [a,b] pos) (zgG tA fo):=by
 intro pins s σ H Q I h;refine isTrue_or (thn (ha pins s σ H _ I h) ?_);rintro c s1 ⟨H1,f,d,o,q1⟩;cases c with
 | false=>
  refine isTrue_or (thn (n pins s1 σ H1 _ f o) ?_);rintro l s2 ⟨H2,i,e,j⟩;subst e j;rw[Bool.false_or]at q1;cases l with
  | false=>exact isTrue_or_nil (H2,i,q1)
  | true=>exact(H2,i,q1)
 | true=>exact(H1,f,by rw[Bool.true_or]at q1;exact q1)
def zcK(c:TT)(t u:TS):TS:=λD σ H=>∃J:St->Hp->Prop,(c σ H λb H1=>if b=true then t {D with nx:=J} σ H1 else u {D with nx:=J} σ H1)/\∀σ' H',J σ' H'->D.nx σ' H'
theorem kX{c:Expr}{a b:List Stmt}{tc:TT}{t u:TS}(hc:PT X c tc)(ha:PSs X a t)(i:PSs X b u):PS X (.If c a b pos) (zcK tc t u):=by
 intro pins s σ H D I h;obtain⟨J,h,j⟩:=h;have fin:∀(f:Flow) (s':Shared),SP X pins {D with nx:=J} f s'->SP X pins D f s':=λf s' q=>by
  cases f with
  | next=>obtain⟨σ',H',l,q⟩:=q;exact(σ',H',l,j _ _ q)
  | ret v=>exact q
  | brk=>exact q
  | cont=>exact q
 refine wpAny_If (thn (hc pins s σ H _ I h) ?_);rintro d s1 ⟨H1,e,q1⟩;cases d with
 | true=>exact thn (ha pins s1 σ H1 _ e q1) fin
 | false=>exact thn (i pins s1 σ H1 _ e q1) fin
end
def yV{c:TT}{tb:TS}{D:Ends}{σ:St}(W:Nat->St->Hp->Prop)(m:Nat)(h0:W m σ H)
  (hs:∀m σ H,W m σ H->c σ H λb H1=>if b=true then∃N:St->Hp->Prop,(∀σ' H',N σ' H'->∃a,a<m/\W a σ' H')/\tb {D with nx:=N,ct:=N,bk:=D.nx} σ H1 else D.nx σ H1):z1q c tb D σ H:=
 (W,(m,h0),hs)
structure Kn(P:Program)(w:World)(K:W.Frag)(mg:Str->Option Value)(base:Heap)(k:Nat)(x:Str)(ps:List Str)(sp:Sp):Prop where
 ex:∃(f:Addr) (fd:FuncData),FnOk P w K mg base CX0 k f fd ps sp/\mg x=some (.ref f)/\PySem.W.keepIn K (.ref f)=true/\Binds K fd ps []
theorem z2h{k:Nat}{x:Str}{ps:List Str}{sp:Sp}{e:Expr}{es:List Expr}{t:TA}{p pos:Pos}(C:Kn X.prog X.w X.K X.mg X.base k x ps sp)(hr:Room k X.A)(d:Gl X x)(ha:PA X (e::es) t)
  (h: ~~~((x == ("__debug__":Str))=false)) (he:(starEach (e::es) X.env=(false,eval e X.env)::starEach es X.env)⁻¹) (a:((backTo pos (starEach es X.env)).any (·.1)=false)⁻¹):
  PE X (.Call (.Name x p) (e::es) [] pos) (zcI sp [] E0 t):=by
 obtain⟨f,fd,F,hm,b,c⟩:=C.ex;exact zdD F hr d hm b c .nil z2N ha h he a
variable{α:Type}
theorem z16(gs:List α)(x:α):(gs++[x])[(gs++[x]).length-1]? =some x:=by simp
def z2p{l:List α}(h:l≠ []):∃gs x,l=gs++[x]:=(l.dropLast,l.getLast h,(List.dropLast_concat_getLast h).symm)
variable{x:α}{r:List α}
def zH:atI (x::r) 0=some x:=zR (j:=0) rfl
def j8{y:α}:atI (x::y::r) 1=some y:=zR (j:=1) rfl
def jF{y z:α}:atI (x::y::z::r) 2=some z:=zR (j:=2) rfl
theorem z9z{xs:List α}{i:Int}{v:α}(h0:0<=i)(h:xs[i.toNat]? =some v):atI xs i=some v:=by
 have e:i=((i.toNat:Nat):Int):=by lia
 rw[e];exact zR h
theorem zV(ss:List Str):(ss.map V.str).all ko=true:=by
 rw[qS];intro x a;obtain⟨s,_,rfl⟩:=qx.mp a
 rfl
theorem ji{ss:List Str}{s:Str}(h:s∈ss):(∃z,(ss.map V.str)[ss.idxOf s]? =some z/\eqV z (.str s)=true)/\∀m z,m<ss.idxOf s->(ss.map V.str)[m]? =some z->eqV z (.str s)=false:=by
 have a:ss.idxOf s<ss.length:=qC.mpr h;refine((.str s,?_,?_),λm z hm hz=>?_)
 .rw [wM,we a,List.getElem_idxOf a]
  rfl
 .show(s == s)=true
  exact w0j s
 .have b:m<ss.length:=by lia
  rw[wM,we b]at hz;cases hz
  show(ss[m] == s)=false
  have h2:m<ss.findIdx (· == s):=hm;exact List.not_of_lt_findIdx h2
end L2

namespace L2
open PySem PySem.Spec PyProof.Rows
variable{A:Around}{R:Result->Shared->Prop}{s:Shared}{bz iter:Expr}{bg:List Expr}{scope:Scope}{env:Env}
theorem z6y{prog:Program}{w:World}{target:Expr}{pos:Pos}{it acc:Value}(I:Nat->Shared->Prop)
  (turn:∀n s,I n s->wpAny (model prog w) A (pyNext it) (λr q=>match r with
   | none=>R (.ok .next) q
   | some v=>wpAny (model prog w) A (letOwnedTupleGo target it v) (λz b=>wpAny (model prog w) A (assign target env v) (λz i=>
     wpAny (model prog w) A (forIn bg true λc r=>if r=true then do let ok<-isTrue c env (eval c env);pure (ForInStep.yield ok)else pure (ForInStep.yield r)) (λok a=>
      if ok=true then wpAny (model prog w) A (eval bz env) (λx d=>
       wpAny (model prog w) A (call (.builtin "list.append") [acc,x]) (λz j=>∃m,m<n/\I m j) (notedBy (model prog w) A env λe s'=>R (.error e) s') d) (notedBy (model prog w) A env λe s'=>R (.error e) s') a
      else∃m,m<n/\I m a) (notedBy (model prog w) A env λe s'=>R (.error e) s') i) (notedBy (model prog w) A env λe s'=>R (.error e) s') b) (notedBy (model prog w) A env λe s'=>R (.error e) s') q) (notedBy (model prog w) A env λe s'=>R (.error e) s') s)
  (n:Nat) (h:I n s):
  codeAny (model prog w) A (.compLoop (.ListComp bz [(target,iter,bg,0)] scope pos) 0 it acc env) R s:=by
 refine codeAny_loop rfl I (λn s y=>?_) n h
 show wpAny _ A ((compTurn (.ListComp bz [(target,iter,bg,0)] scope pos) 0 it acc env).onRaise (λx=>do noteFrame x env;theTreesLotGoes x)) _ _ s
 refine wpAny_noted ?_;rw[compTurn_list];refine wD (wpAny_standAt (wD (Qa (turn n s y) (λr q t=>?_) λz z h'=>h')));cases r with
 | none=>exact q9 t
 | some v=>
  refine wD (Qa t (λz b l=>?_) λz z h'=>h');refine wD (Qa l (λz i u=>wD (Qa u (λok a f=>?_) λz z h'=>h')) λz z h'=>h');cases ok with
  | false=>exact q9 (rfl,f)
  | true=>
   exact wD (wD (Qa f (λx d p=>wD (Qa p (λz j o=>q9 (q9 (rfl,o))) λz z h'=>h')) λz z h'=>h'))
noncomputable def yP(env:Env):List (Str×NameKind)->List (Str×Addr)->List (Str×Addr)
 | [],acc=>acc
 | (n,k)::r,acc=>yP env r (if k == .free then(n,(env.cells.lookup n).getD 0)::acc else acc)
theorem z9R{env:Env}(f:Str×NameKind->List (Str×Addr)->Sem (ForInStep (List (Str×Addr))))
  (i:∀name kind cells,f (name,kind) cells=if kind == .free then(do let a<-cellOf env name;pure (.yield ((name,a)::cells)))else pure (.yield cells)):
  ∀(names:List (Str×NameKind)) (acc:List (Str×Addr)),(∀y∈names,y.2= .free->∃c,env.cells.lookup y.1=some c)->forIn names acc f=(pure (yP env names acc):Sem (List (Str×Addr)))
 | [],acc,_=>by rw[List.forIn_nil];rfl
 | (n,k)::r,acc,h=>by
  rw[List.forIn_cons,i];have d:=λacc=>z9R f i r acc λy j=>h y (wZ _ j)
  unfold yP;cases hk:k == NameKind.free with
  | true=>
   obtain⟨c,hc⟩:=h (n,k) qy (QC.mp hk);have e:cellOf env n=(pure c:Sem Addr):=by
    unfold cellOf;have b:env.cells.lookup n=some c:=hc;rw[b]
   have b:env.cells.lookup n=some c:=hc;simp only[w1f,e,pure_bind,b,Option.getD_some];exact d _
  | false=>
   simp only[w0h,w0B,pure_bind];exact d _
theorem z04(h:∀y∈scope.names,y.2= .free->∃c,env.cells.lookup y.1=some c):closureFor scope env=pure (yP env scope.names []):=by
 simp only[closureFor];rw[z9R (env:=env) _ (λname kind cells=>by cases hk:kind == NameKind.free<;>simp[hk]) scope.names [] h]
 rfl
theorem z2y{env:Env}:∀(names:List (Str×NameKind)) (acc:List (Str×Addr)),(∀y∈names,y.2= .free->∃c,env.cells.lookup y.1=some c)->(∀y c,acc.lookup y=some c->env.cells.lookup y=some c)->
  ∀y c,(yP env names acc).lookup y=some c->env.cells.lookup y=some c
 | [],_,_,ha=>ha
 | (n,k)::r,acc,h,ha=>by
  unfold yP;refine z2y r _ (λy a=>h y (wZ _ a)) λy c e=>?_
  cases hk:k == NameKind.free with
  | true=>
   rw[hk,qd rfl,qK]at e;obtain⟨c',hc⟩:=h (n,k) qy (QC.mp hk);have b:env.cells.lookup n=some c':=hc;cases a:y == n with
   | true=>
    rw[a]at e;rw[b]at e;cases e;rw[QC.mp a];exact b
   | false=>
    rw[a]at e;exact ha y c e
  | false=>
   rw[hk,wW wU]at e;exact ha y c e
theorem z3f{env:Env}:∀(names:List (Str×NameKind)) (acc:List (Str×Addr)) (y:Str),((y,NameKind.free)∈names\/∃c,acc.lookup y=some c)->∃c,(yP env names acc).lookup y=some c
 | [],_,y,h=>by
  rcases h with h|h
  .cases h
  .exact h
 | (n,k)::r,acc,y,h=>by
  unfold yP;refine z3f r _ y ?_;rcases h with h|⟨c,h⟩
  .rcases wL.mp h with e|h
   .cases e;refine .inr ?_;simp[qK]
   .exact .inl h
  .refine .inr ?_;by_cases hk:(k == NameKind.free)=true
   .rw [qd hk,qK];cases y == n with
    | true=>exact(_,rfl)
    | false=>exact(c,h)
   .rw [wW hk];exact(c,h)
theorem z4u:∀(names:List (Str×NameKind)) (h:Heap) (acc:List (Str×Addr)) (y:Str) (c:Addr),(cellsFrom h.objs.size names acc).lookup y=some c->
  ((pushCells h names).IsCell c none/\h.objs.size<=c/\(y,NameKind.cell)∈names)\/acc.lookup y=some c
 | [],_,_,_,_,e=> .inr e
 | (n,k)::r,h,acc,y,c,e=>by
  unfold cellsFrom at e;unfold pushCells;by_cases hk:(k == NameKind.cell)=true
  .rw [qd hk]at e ⊢;have d:(cellsFrom (h.push {cls:= .type "cell",data:= .cell none}).objs.size r ((n,h.objs.size)::acc)).lookup y=some c:=by rw[Qo];exact e
   rcases z4u r (h.push {cls:= .type "cell",data:= .cell none}) ((n,h.objs.size)::acc) y c d with⟨a1,a2,a3⟩|a
   .rw [Qo]at a2;exact .inl (a1,by lia,wZ _ a3)
   .rw [qK]at a;cases hy:y == n with
    | true=>
     rw[hy]at a;cases a;refine .inl (Heap.IsCell.keeps (_,qh _ rfl,rfl) λb o q=>w0U r _ b o q,wA _,?_);rw[QC.mp hy,QC.mp hk];exact qy
    | false=>
     rw[hy]at a;exact .inr a
  .rw [wW hk]at e ⊢;rcases z4u r h acc y c e with⟨a1,a2,a3⟩|a
   .exact .inl (a1,a2,wZ _ a3)
   .exact .inr a
theorem z72:∀(names:List (Str×NameKind)) (n:Nat) (acc:List (Str×Addr)) (y:Str),(y,NameKind.cell)∉names->(cellsFrom n names acc).lookup y=acc.lookup y
 | [],_,_,_,_=>rfl
 | (m,k)::r,n,acc,y,h=>by
  unfold cellsFrom;by_cases hk:(k == NameKind.cell)=true
  .rw [qd hk,z72 r (n+1) _ y λz=>h (wZ _ z),qK];have:(y == m)=false:=w0x.mpr λz=>h (by rw[z,QC.mp hk];exact qy)
   rw[this]
  .rw [wW hk];exact z72 r n acc y λz=>h (wZ _ z)
theorem z8n:∀(names:List (Str×NameKind)) (n:Nat) (acc:List (Str×Addr)) (y:Str),((y,NameKind.cell)∈names\/∃c,acc.lookup y=some c)->∃c,(cellsFrom n names acc).lookup y=some c
 | [],_,_,_,h=>by
  rcases h with h|h
  .cases h
  .exact h
 | (m,k)::r,n,acc,y,h=>by
  unfold cellsFrom;by_cases hk:(k == NameKind.cell)=true
  .rw [qd hk];refine z8n r (n+1) _ y ?_;rcases h with h|⟨c,h⟩
   .rcases wL.mp h with e|h
    .cases e;exact .inr (n,by simp[qK])
    .exact .inl h
   .refine .inr ?_;rw[qK];cases y == m with
    | true=>exact(_,rfl)
    | false=>exact(c,h)
  .rw [wW hk];refine z8n r n acc y ?_;rcases h with h|h
   .rcases wL.mp h with e|h
    .cases e;exact absurd rfl hk
    .exact .inl h
   .exact .inr h
theorem z8z:∀(names:List (Str×NameKind)) (n:Nat) (acc:List (Str×Addr)),(∀y c,acc.lookup y=some c->c<n)->(∀y z c,acc.lookup y=some c->acc.lookup z=some c->y=z)->
  ∀y z c,(cellsFrom n names acc).lookup y=some c->(cellsFrom n names acc).lookup z=some c->y=z
 | [],_,_,_,hi=>hi
 | (m,k)::r,n,acc,d,hi=>by
  unfold cellsFrom;by_cases hk:(k == NameKind.cell)=true
  .rw [qd hk];refine z8z r (n+1) _ (λy c e=>?_) λy z c b a=>?_
   .rw [qK]at e;cases hy:y == m with
    | true=>rw[hy]at e;cases e;exact w0E n
    | false=>rw[hy]at e;exact Qc (d y c e)
   .rw [qK]at b a;cases hy:y == m with
    | true=>
     rw[hy]at b;cases b;cases hz:z == m with
     | true=>rw[QC.mp hy,QC.mp hz]
     | false=>rw[hz]at a;exact absurd (d z n a) (QX _)
    | false=>
     rw[hy]at b;cases hz:z == m with
     | true=>rw[hz]at a;cases a;exact absurd (d y n b) (QX _)
     | false=>rw[hz]at a;exact hi y z c b a
  .rw [wW hk];exact z8z r n acc d hi
theorem z48{M:Model}{E:Value->Shared->Prop}{globals:Addr}{cl:List (Str×Addr)}{qual:Str}{Q:Env->Shared->Prop}
  (a:Q {scope:=scope,locals:=s.heap.objs.size,globals:=globals,cells:=cellsFrom (s.heap.push {cls:= .type "dict",data:= .dict #[]}).objs.size scope.names cl,qual:=qual,func:=none,code:=env.code,frame:=env.frame,builtins:=env.builtins}
   {s with heap:=pushCells (s.heap.push {cls:= .type "dict",data:= .dict #[]}) scope.names}):
  wpAny M A (newFunctionEnv scope globals cl [] qual none .none (some env)) Q E s:=by
 simp only[newFunctionEnv,Option.isSome_some,w1f];refine wD (wpAny_alloc ?_);refine wD (wpAny_layCells _ (λname kind cells=>by cases nF:kind == NameKind.cell<;>simp[nF]) _ _ _ _ ?_);rw[List.forIn_nil];exact wD (q9 (q9 a))
noncomputable abbrev j9(X:Cx)(scope:Scope)(a:List Str)(C:Addr)(cells:List (Str×Addr))(s₀:Shared)(H₀:Hp)(ex:List Addr)(pins:List (Addr×Obj)):Cx:=
 {prog:=X.prog,w:=X.w,K:=X.K,mg:=X.mg,base:=X.base,A:=X.A,N:=a,s₀:=s₀,H₀:=H₀,env:=compEnvC scope cells C X.env,outer:=X.stack,stack:=X.stack,ex:=ex,fn:=λy=>decide ((y,NameKind.cell)∈scope.names),calm:=X.calm,pn:=X.pn++pins,xe:=λv v=>False}
structure CompSc(X:Cx)(scope:Scope)(x:Str)(fr:List Str)(ix:List Nat):Prop where
 kind:scope.kind= .function
 names:∀y∈scope.names,y.2= .local->scope.names.lookup y.1=some .local
 uniq:(scope.names.map (·.1)).Nodup
 xloc:scope.names.lookup x=some .local\/scope.names.lookup x=some .cell
 clo:∀y∈scope.names,y.2= .free->X.env.kindOf y.1=some .cell\/X.env.kindOf y.1=some .free
 free:∀(k:Nat) (y:Str),fr[k]? =some y->∃j,ix[k]? =some j/\X.N[j]? =some y/\scope.names.lookup y=some .free
 nd:(x::fr).Nodup
 len:fr.length=ix.length
noncomputable def sub(σ:St)(ix:List Nat)(x:Option V):St:=x::ix.map λj=>(σ[j]?).getD none
def z7t(X:Cx)(bg:List Expr)(t:TT):Prop:=
 ∀(pins:List (Addr×Obj)) (s:Shared) (σ:St) (H:Hp) (Q:Bool->Hp->Prop),Inv X pins σ H s->t σ H Q->
  wpAny (model X.prog X.w) X.A (forIn bg true λc r=>if r=true then do let ok<-isTrue c X.env (eval c X.env);pure (ForInStep.yield ok)else pure (ForInStep.yield r)) (TP X pins σ Q) X.xe s
def z7N:TT:=λv H Q=>Q true H
variable{X:Cx}
def jh:z7t X [] z7N:=λv v v H v I h=>wpAny_tests_nil (H,I,h)
def z2o{c:Expr}{t:TT}(h:PT X c t):z7t X [c] t:=λpins s σ H Q I q=>wpAny_tests_one (h pins s σ H Q I q)
theorem yo{env:Env}:∀{names:List (Str×NameKind)} {y:Str} {k:NameKind},names.lookup y=some k->
  (names.map λ(n,k)=>if(k == NameKind.free&&env.scope.kind == .function&&env.kindOf n == some .cell)then(n,NameKind.cell)else(n,k)).lookup y=some (if(k == NameKind.free&&env.scope.kind == .function&&env.kindOf y == some .cell)then NameKind.cell else k)
 | [],_,_,h=>by simp at h
 | (n,k')::r,y,k,h=>by
  rw[qK]at h;rw[qF];cases hy:y == n with
  | true=>
   rw[hy]at h;cases h;have e:y=n:=QC.mp hy;subst e;by_cases hc:(k' == NameKind.free&&env.scope.kind == .function&&env.kindOf y == some .cell)=true
   .simp only [hc,w1f,qK,w0j]
   .simp only [hc,w0B,qK,w0j];simp
  | false=>
   rw[hy]at h;have a:=yo (env:=env) (names:=r) h;by_cases hc:(k' == NameKind.free&&env.scope.kind == .function&&env.kindOf n == some .cell)=true
   .simp only [hc,w1f,qK,hy];exact a
   .show List.lookup y ((if(k' == NameKind.free&&env.scope.kind == .function&&env.kindOf n == some .cell)=true then(n,NameKind.cell)else(n,k'))::_)=_
    rw[wW hc,qK,hy];exact a
theorem z6a:∀{names:List (Str×NameKind)} {y:Str} {k:NameKind},
  (names.map λ(n,k)=>if(k == NameKind.free&&env.scope.kind == .function&&env.kindOf n == some .cell)then(n,NameKind.cell)else(n,k)).lookup y=some k->∃k',names.lookup y=some k'/\k=(if(k' == NameKind.free&&env.scope.kind == .function&&env.kindOf y == some .cell)then NameKind.cell else k')
 | names,y,k,h=>by
  cases e:names.lookup y with
  | some k'=>
   have:=yo (env:=env) e;rw[this]at h;exact(k',rfl,(Option.some.inj h).symm)
  | none=>
   exfalso
   induction names with
   | nil=>simp at h
   | cons p r a=>
    obtain⟨n,k'⟩:=p;rw[qK]at e;cases hy:y == n with
    | true=>rw[hy]at e;cases e
    | false=>
     rw[hy]at e;refine a ?_ e;rw[qF]at h;by_cases hc:(k' == NameKind.free&&env.scope.kind == .function&&env.kindOf n == some .cell)=true
     .simpa only [hc,w1f,qK,hy]using h
     .simpa [hc,qK,hy]using h
def lookup_mem{α:Type}{l:List (Str×α)}{n:Str}{c:α}(h:l.lookup n=some c):(n,c)∈l:=Q2 h
theorem z8u:∀(names:List (Str×NameKind)) (n:Nat) (acc:List (Str×Addr)) (y:Str) (c:Addr),(y,NameKind.cell)∈names->(cellsFrom n names acc).lookup y=some c->n<=c
 | [],_,_,_,_,h,_=>by cases h
 | (m,k)::r,n,acc,y,c,h,e=>by
  unfold cellsFrom at e;by_cases hr:(y,NameKind.cell)∈r
  .by_cases hk:(k == NameKind.cell)=true
   .rw [qd hk]at e;exact Nat.le_of_succ_le (z8u r (n+1) _ y c hr e)
   .rw [wW hk]at e;exact z8u r n acc y c hr e
  .rcases wL.mp h with q|q
   .cases q;rw[qd (w0j _),z72 r (n+1) _ _ hr,qK,w0j]at e;cases e;exact wA _
   .exact absurd q hr
theorem z5I:∀{names:List (Str×NameKind)} {y:Str} {k k':NameKind},(names.map (·.1)).Nodup->names.lookup y=some k->(y,k')∈names->k=k'
 | [],_,_,_,_,h,_=>by simp at h
 | (n,kk)::r,y,k,k',hn,h,hm=>by
  rw[qF]at hn;obtain⟨h1,h2⟩:=w0a.mp hn;rw[qK]at h;cases hy:y == n with
  | true=>
   rw[hy]at h;cases h;rcases wL.mp hm with e|hm
   .cases e;rfl
   .exact absurd (qx.mpr (_,hm,rfl)) (by rw[QC.mp hy];exact h1)
  | false=>
   rw[hy]at h;rcases wL.mp hm with e|hm
   .cases e;rw[w0j]at hy;cases hy
   .exact z5I h2 h hm
variable{pins:List (Addr×Obj)}{H:Hp}{x:Str}{fr:List Str}{ix:List Nat}{fp:List Addr}
section
variable{σ:St}
noncomputable abbrev jm:Obj:={cls:= .type "list",data:= .seq ([]:List Value).toArray}
noncomputable abbrev z0e:Obj:={cls:= .type "dict",data:= .dict #[]}
theorem zcr{σ4:St}{H4:Hp}{f:Shared}{cells:List (Str×Addr)}{M:List Str}{C D:Addr}{pl:List (Addr×Obj)}{its:List Value}{ys:List V}{k:Nat}{h':Heap}(I:Inv X pins σ H s)(y:∀b∈fp,z4i X pins H b)
  (h:Inv (j9 X scope M C cells s H fp pins) pl σ4 H4 f) (p:s.heap.objs.size<=D) (L:s.heap.objs.size<=C) (A:D≠C) (t:H4 D=none) (K:f.heap.get? D=some {cls:= .type "list",data:= .seq its.toArray k}) (r:zM ys its) (hz:ys.length<=sizeLine)
  (J:Heap.SameBut C f.heap h'):Inv X pins σ (upd H4 D (.lst ys)) {f with heap:=h'}:=by
 have u:Un (frs X.stack) fp H H4 s.heap f.heap:=h.base;have ne:∀b o,s.heap.get? b=some o->b≠C/\b≠D:=λb o e=>by
  have:=wQ e;exact(qc (wT this L),qc (wT this p))
 have j:H D=none:=I.hok.fresh p;have l:H4 C=none:=h.free;have i:∀b,b≠C->h'.get? b=f.heap.get? b:=λb a=>J.2 b a
 have E:Un (frs X.stack) fp H (upd H4 D (.lst ys)) s.heap h':=by
  refine(λb o e n a d=>?_,λb o e n a d=>?_,λb o e n d=>?_,λb o e d=>?_,λb xs e=>?_,λb o w e=>?_,λb ps e=>?_)
  .rw [i b (ne b o e).1];exact u.keep b o e n a d
  .rw [i b (ne b o e).1];exact u.slot b o e n a d
  .rw [zj (ne b o e).2];exact u.free b o e n d
  .rw [i b (ne b o e).1];exact u.there b o e d
  .rw [zj (zq e j)];exact u.tups b xs e
  .rw [zj (zq e j)];exact u.frzs b o w e
  .rw [zj (zq e j)];exact u.tbls b ps e
 have hok:HOk X.prog X.w (upd H4 D (.lst ys)) h':=λb o e=>by
  by_cases a:b=D
  .subst a;rw[zh]at e;cases e;exact(hz,its,k,r,(i b A).trans K)
  .rw [zj a]at e;refine(h.hok b o e).stay (λc v hc q=>?_) (λc q=>?_) λc xs q=>?_
   .have B:c≠C:=by
     rintro rfl;rcases hc with z|z
     .rw [<-z,l]at e;cases e
     .rw [l]at z;cases z
    exact(i c B).trans q
   .rw [zj (zq q t)];exact q
   .rw [zj (zq q t)];exact q
 exact I.call' (s':={f with heap:=h'}) (ch:=fp) h.os E hok h.bare λb a=>by
  obtain⟨_,f1,_,G,x,F⟩:=y b a;exact(G,f1,x,F)
end
def z0n(J:It)(σ:St)(ix:List Nat)(tc:TT)(te:TE)(Q:List V->Hp->Prop)(H1:Hp):Prop:=
 ∃W:Nat->Nat->List V->Hp->Prop,(∃m,W 0 m [] H1)/\∀i m ys H,W i m ys H->ys.length<sizeLine/\
  ((J.stop i H/\Q ys H)\/(J.go i H/\∃(e:V->Hp->Prop) (d:Hp->Prop),(∀y c,e y c->∃a,a<m/\W (i+1) a (ys++[y]) c)/\(∀H2,d H2->∃a,a<m/\W (i+1) a ys H2)/\
   ∀x H',J.yld i H x H'->tc (sub σ ix (some x)) H' λb H2=>if b=true then te (sub σ ix (some x)) H2 e else d H2))
structure CompScG(X:Cx)(scope:Scope)(xs:List Str)(fr:List Str)(ix:List Nat):Prop where
 kind:scope.kind= .function
 names:∀y∈scope.names,y.2= .local->scope.names.lookup y.1=some .local
 uniq:(scope.names.map (·.1)).Nodup
 clo:∀y∈scope.names,y.2= .free->X.env.kindOf y.1=some .cell\/X.env.kindOf y.1=some .free
 free:∀(k:Nat) (y:Str),fr[k]? =some y->∃j,ix[k]? =some j/\X.N[j]? =some y/\scope.names.lookup y=some .free
 nd:(xs++fr).Nodup
 len:fr.length=ix.length
noncomputable def z87(σ:St)(ix:List Nat)(a:List (Option V)):St:=a++ix.map λj=>(σ[j]?).getD none
noncomputable def z8d(sx:Scope)(NX:List Str)(scope:Scope)(xs fr:List Str)(ix:List Nat):Bool:=
 (scope.kind == .function)&&scope.names.all (λy=>y.2 != .local||scope.names.lookup y.1 == some .local)&&decide ((scope.names.map (·.1)).Nodup) &&
 scope.names.all (λy=>y.2 != .free||(sx.names.lookup y.1 == some .cell||sx.names.lookup y.1 == some .free)) &&
 decide (fr.length=ix.length)&&decide ((xs++fr).Nodup)&&(fr.zip ix).all λp=>NX[p.2]? == some p.1&&scope.names.lookup p.1 == some .free
variable{xs:List Str}
theorem CompScG.of{sx:Scope}{NX:List Str}(hs:X.env.scope=sx)(f:X.N=NX)(h:z8d sx NX scope xs fr ix=true):CompScG X scope xs fr ix:=by
 simp only[z8d,Qb,w0V,QC,qS,Bool.or_eq_true,bne_iff_ne,ne_eq]at h;obtain⟨⟨⟨⟨⟨⟨h1,h2⟩,d⟩,i⟩,c⟩,l⟩,j⟩:=h;refine(h1,λy b a=>?_,d,λy b a=>?_,λk y e=>?_,l,c)
 .rcases h2 y b with q|q
  .exact absurd a q
  .exact q
 .show X.env.scope.names.lookup y.1=_\/X.env.scope.names.lookup y.1=_
  rw[hs];rcases i y b with q|q
  .exact absurd a q
  .exact q
 .have a:k<ix.length:=by rw[<-c];exact(wg.mp e).1
  have hz:(fr.zip ix)[k]? =some (y,ix[k]):=by
   rw[List.getElem?_zip_eq_some];exact(e,we a)
  obtain⟨a1,a2⟩:=j _ (qN hz);exact(ix[k],we a,by rw[f];exact a1,a2)
section
variable{σ:St}
theorem z8j(S:CompScG X scope xs fr ix)(I:Inv X pins σ H s)(E:∀b∈fp,z4i X pins H b)(Q:∀b∈fp,b<s.heap.objs.size):
  Inv (j9 X scope (xs++fr) (s.heap.push jm).objs.size (cellsFrom ((s.heap.push jm).push z0e).objs.size scope.names (yP X.env scope.names [])) s H fp pins) [] (z87 σ ix (List.replicate xs.length none)) H
   {s with heap:=pushCells ((s.heap.push jm).push z0e) scope.names}:=by
 have O:∀y∈scope.names,y.2= .free->∃c,X.env.cells.lookup y.1=some c:=λy h hk=>I.ok.has y.1 (S.clo y h hk)
 have x:∀y c,(yP X.env scope.names []).lookup y=some c->X.env.cells.lookup y=some c:=z2y scope.names [] O λy c e=>by simp at e
 have D:∀y,(y,NameKind.free)∈scope.names->∃c,(yP X.env scope.names []).lookup y=some c:=λy h=>z3f scope.names [] y (.inl h)
 have T:∀y c,(yP X.env scope.names []).lookup y=some c->c<s.heap.objs.size:=λy c e=>by
  obtain⟨v,q⟩:=I.cell y c (x y c e);exact q.lt
 have A:(s.heap.push jm).objs.size=s.heap.objs.size+1:=Qo ..;have G:((s.heap.push jm).push z0e).objs.size=s.heap.objs.size+2:=by rw[Qo,A]
 have up:∀b o,s.heap.get? b=some o->(pushCells ((s.heap.push jm).push z0e) scope.names).get? b=some o:=λb o e=>w0U _ _ b o (wu _ (wu _ e))
 have F:∀y c,(cellsFrom ((s.heap.push jm).push z0e).objs.size scope.names (yP X.env scope.names [])).lookup y=some c->
   ((pushCells ((s.heap.push jm).push z0e) scope.names).IsCell c none/\s.heap.objs.size+2<=c/\(y,NameKind.cell)∈scope.names)\/X.env.cells.lookup y=some c:=λy c e=>by
  rcases z4u scope.names ((s.heap.push jm).push z0e) (yP X.env scope.names []) y c e with⟨a1,a2,a3⟩|a
  .rw [G]at a2;exact .inl (a1,a2,a3)
  .exact .inr (x y c a)
 have ok:(j9 X scope (xs++fr) (s.heap.push jm).objs.size (cellsFrom ((s.heap.push jm).push z0e).objs.size scope.names (yP X.env scope.names [])) s H fp pins).Ok:=by
  refine(I.ok.mod,S.kind,I.ok.glob,I.ok.blt,?_,?_,?_,?_,I.ok.hd,I.ok.frames,.inl rfl,?_,I.bs,wY I.ok.bsz I.sz,?_,?_,I.stack,I.stkFree)
  .show s.heap.objs.size<=(s.heap.push jm).objs.size
   rw[A]
   lia
  .exact z8z scope.names _ _ (λy c e=>by rw[G];exact wT (T y c e) (Nat.le_add_right _ 2)) λy z c w f=>I.ok.inj y z c (x y c w) (x z c f)
  .intro y h;refine z8n scope.names _ _ y ?_;have gq:(relabel scope X.env).names.lookup y=some .cell\/(relabel scope X.env).names.lookup y=some .free:=h;rcases gq with gq|gq
   .obtain⟨k',e,l⟩:=z6a gq;by_cases hc:(k' == NameKind.free&&X.env.scope.kind == .function&&X.env.kindOf y == some .cell)=true
    .rw [Qb,Qb]at hc;have f:=QC.mp hc.1.1;subst f;exact .inr (D y (lookup_mem e))
    .rw [wW hc]at l;subst l;exact .inl (lookup_mem e)
   .obtain⟨k',e,l⟩:=z6a gq;by_cases hc:(k' == NameKind.free&&X.env.scope.kind == .function&&X.env.kindOf y == some .cell)=true
    .rw [qd hc]at l;cases l
    .rw [wW hc]at l;subst l;exact .inr (D y (lookup_mem e))
  .intro y c h e;have hm:(y,NameKind.cell)∈scope.names:=qD h;have:=z8u scope.names _ _ y c hm e
   show s.heap.objs.size<=c
   rw[G]at this
   lia
  .intro b r;have J:=Q b r;refine(?_,λy c e=>?_)
   .show b≠(s.heap.push jm).objs.size
    rw[A];exact qc (Qc J)
   .rcases F y c e with⟨_,a2,_⟩|a
    .exact QL (wT J (wY (Nat.le_add_right _ 2) a2))
    .exact(E b r).2.2.2.2.1 y c a
  .intro b o e r;obtain⟨_,_,_,f3,_⟩:=E b r;rcases f3 with f3|f3
   .exact I.ok.noex b o e f3
   .exact absurd (wT (wQ e) (wY I.ok.bsz f3)) (QX _)
  .intro b r z;obtain⟨_,f1,f2,_⟩:=E b r;rcases wL.mp (I.stkSub b z)with e|e
   .exact f1 e
   .exact f2 e
 refine(ok,rfl,I.bare,Un.kept up,(_,(Heap.Ns.new (s.heap.push jm) (.type "dict")).keeps (w0U _ _),λi y v w f e3=>?_),λy c e=>?_,?_,λy c e=>?_,λp hp=>?_,I.hok.kept up,?_)
 .have f:(List.replicate xs.length none++ix.map λj=>(σ[j]?).getD none)[i]? =some (some v):=f;have w:(xs++fr)[i]? =some y:=w;by_cases bo:i<xs.length
  .rw [qY (by rw[w0H];exact bo),List.getElem?_replicate,qd bo]at f;cases f
  .obtain⟨k,rfl⟩:∃k,i=xs.length+k:=(i-xs.length,by lia)
   have Y:fr[k]? =some y:=by rw[qW (by lia),Nat.add_sub_cancel_left]at w;exact w
   have K:(ix.map λj=>(σ[j]?).getD none)[k]? =some (some v):=by rw[qW (by rw[w0H];lia),w0H,Nat.add_sub_cancel_left]at f;exact f
   obtain⟨j,N,P,C⟩:=S.free k y Y;rw[wM,N]at K;have B:(σ[j]?).getD none=some v:=Option.some.inj K;have Z:σ[j]? =some (some v):=by
    cases q:σ[j]? with
    | none=>rw[q]at B;cases B
    | some o=>rw[q]at B;exact Qd some B
   have hk:=S.clo (y,NameKind.free) (lookup_mem C) rfl;obtain⟨m,hn,hl⟩:=I.loc;obtain⟨u,U,t⟩:=hl j y v P Z (.inr hk);refine(u,U,.inr (?_,?_))
   .have q:=yo (env:=X.env) C
    show(relabel scope X.env).names.lookup y=_\/(relabel scope X.env).names.lookup y=_
    rw[show(relabel scope X.env).names.lookup y=_ from q];by_cases hc:(NameKind.free == NameKind.free&&X.env.scope.kind == .function&&X.env.kindOf y == some .cell)=true
    .rw [qd hc];exact .inl rfl
    .rw [wW hc];exact .inr rfl
   .rcases t with⟨t,_⟩|⟨_,c,hc,ay⟩
    .rcases hk with hk|hk
     .rw [show X.env.kindOf y=_ from hk]at t;cases t
     .rw [show X.env.kindOf y=_ from hk]at t;cases t
    .refine(c,?_,ay.keeps up);have M:(y,NameKind.cell)∉scope.names:=λz=>by
      have:=z5I S.uniq C z;cases this
     show(cellsFrom _ scope.names _).lookup y=some c
     rw[z72 scope.names _ _ y M];obtain⟨c',L⟩:=D y (lookup_mem C);have:=x y c' L;rw[hc]at this;cases this;exact L
 .rcases F y c e with⟨a1,_,_⟩|a
  .exact(none,a1)
  .obtain⟨v,q⟩:=I.cell y c a;exact(v,q.keeps up)
 .show H (s.heap.push jm).objs.size=none
  exact I.hok.fresh (by rw[A];lia)
 .rcases F y c e with⟨_,a2,_⟩|a
  .exact I.hok.fresh (by lia)
  .exact I.freeC y c a
 .have a7:p∈X.pn++pins:=by simpa using hp
  obtain⟨e,n,ne,nf,d⟩:=I.pin p a7;have R:=wQ e;refine(up _ _ e,n,?_,λz=>?_,d)
  .show p.1≠(s.heap.push jm).objs.size
   rw[A];exact qc (Qc R)
  .rcases wL.mp (I.stkSub p.1 z)with q|q
   .exact ne q
   .exact nf q
 .show(z87 σ ix (List.replicate xs.length none)).length=(xs++fr).length
  unfold z87;rw[wm,w9,wm,S.len,w0H]
end
def z2t(J:It)(g:TG)(tc:TT)(te:TE)(Q:List V->Hp->Prop)(σ0:St)(H1:Hp):Prop:=
 ∃(d:St->Prop) (W:Nat->Nat->List V->Hp->Prop),d σ0/\(∃m,W 0 m [] H1)/\∀i m ys σ H,d σ->W i m ys H->ys.length<sizeLine/\
  ((J.stop i H/\Q ys H)\/(J.go i H/\∃(f:V->Hp->Prop) (e:Hp->Prop),(∀y c,f y c->∃a,a<m/\W (i+1) a (ys++[y]) c)/\(∀H2,e H2->∃a,a<m/\W (i+1) a ys H2)/\
   ∀x H',J.yld i H x H'->g x σ H' λσ2 H2=>d σ2/\tc σ2 H2 λb c=>if b=true then te σ2 c f else e c))
variable{Q:List V->Hp->Prop}{wi:TI}{tc:TT}{te:TE}{J:It}{j:Nat}{y:Str}{py c9:Pos}
section
variable{tg:Expr}{g:TG}{pos:Pos}
theorem z4H{σ:St}{it:Addr}{tn:Nat->Heap->Prop}(hc:X.calm=true)(S:CompScG X scope xs fr ix)
  (dS:∀C cells s₀ H₀ ex pins,PE (j9 X scope (xs++fr) C cells s₀ H₀ ex pins) bz te) (dU:∀C cells s₀ H₀ ex pins,z7t (j9 X scope (xs++fr) C cells s₀ H₀ ex pins) bg tc)
  (gC:∀C cells s₀ H₀ ex pins,PG (j9 X scope (xs++fr) C cells s₀ H₀ ex pins) tg g) (I:Inv X pins σ H s) (T:Turn X.prog X.w X.K tg J fp it tn) (st:tn 0 s.heap) (Z:∀b∈fp,z4i X pins H b) (h:z2t J g tc te Q (z87 σ ix (List.replicate xs.length none)) H)
  (hR:∀x ys H4,(∃m,x.heap.Ns (s.heap.push jm).objs.size m)->Q ys H4->H4 s.heap.objs.size=none->H4 (s.heap.push jm).objs.size=none->(∀h',Heap.SameBut (s.heap.push jm).objs.size x.heap h'->Inv X pins σ (upd H4 s.heap.objs.size (.lst ys)) {x with heap:=h'})->R (.ok .next) x):
  codeAny (model X.prog X.w) X.A (.compLoop (.ListComp bz [(tg,iter,bg,0)] scope pos) 0 (.ref it) (.ref s.heap.objs.size)
   (compEnvC scope (cellsFrom ((s.heap.push jm).push z0e).objs.size scope.names (yP X.env scope.names [])) (s.heap.push jm).objs.size X.env)) R {s with heap:=pushCells ((s.heap.push jm).push z0e) scope.names}:=by
 obtain⟨Sh,W,xG,⟨m0,w0⟩,turn⟩:=h;have P:∀b∈fp,b<s.heap.objs.size:=λb f=>by
  obtain⟨o,e,_⟩:=T.obj 0 _ st b f;exact wQ e
 have I0:=z8j S I Z P;have z1:(s.heap.push jm).objs.size=s.heap.objs.size+1:=Qo ..;have up:∀b o,s.heap.get? b=some o->(pushCells ((s.heap.push jm).push z0e) scope.names).get? b=some o:=λb o e=>w0U _ _ b o (wu _ (wu _ e))
 have u4:(pushCells ((s.heap.push jm).push z0e) scope.names).get? s.heap.objs.size=some {cls:= .type "list",data:= .seq ([]:List Value).toArray}:=
  w0U _ _ _ _ (wu _ (qh _ rfl))
 have aR:∀y∈scope.names,y.2= .free->∃c,X.env.cells.lookup y.1=some c:=λy hy hk=>I.ok.has y.1 (S.clo y hy hk)
 have cM:∀y c,(cellsFrom ((s.heap.push jm).push z0e).objs.size scope.names (yP X.env scope.names [])).lookup y=some c->c≠s.heap.objs.size:=λy c e=>by
  rcases z4u scope.names ((s.heap.push jm).push z0e) (yP X.env scope.names []) y c e with⟨_,a2,_⟩|a
  .rw [Qo,z1]at a2;exact QL (wT (Qc (w0E _)) a2)
  .obtain⟨v,q⟩:=I.cell y c (z2y scope.names [] aR (λy c e=>by simp at e) y c a);exact qc q.lt
 generalize cellsFrom ((s.heap.push jm).push z0e).objs.size scope.names (yP X.env scope.names [])=cells at I0 cM ⊢;generalize hCe:(s.heap.push jm).objs.size=C at I0 hR z1 ⊢;generalize hDe:s.heap.objs.size=D at z1 u4 cM P hR ⊢;have nG:D≠C:=by lia
 have j:s.heap.objs.size<=D:=by lia
 have N:s.heap.objs.size<=C:=by lia
 have xH:∀p∈X.pn++pins,p.1≠D:=λp hp=>by
  have:=wQ (I.pin p hp).1;exact qc (hDe ▸ this)
 have ag:D∉frs X.stack:=λz=>by
  rcases wL.mp (I.stkSub D z)with e|e
  .have:=I.lt;rw[<-e,hDe]at this;exact QX _ this
  .exact I.nofs j e
 refine z6y (λn s'=>∃i ys its k E H',Inv (j9 X scope (xs++fr) C cells s H fp pins) [] E H' s'/\tn i s'.heap/\(∀b∈fp,H' b=none)/\s'.heap.get? D=some {cls:= .type "list",data:= .seq its.toArray k}/\H' D=none/\zM ys its/\Sh E/\W i n ys H') ?_ m0
  (0,[],[],0,_,H,I0,T.keep _ _ _ st λb f o e=>up b o e,λb f=>(Z b f).1,u4,I.hok.fresh j,.nil,xG,w0)
 rintro n s3 ⟨i,ys,its,k,E,O,I3,ax,iW,xI,pe,nI,xJ,w3⟩;obtain⟨bq,dW⟩:=turn i n ys E O xJ w3;have hlen:=nI.length;have G:D≠(j9 X scope (xs++fr) C cells s H fp pins).env.locals:=nG;have M:Inv (j9 X scope (xs++fr) C cells s H fp pins) [(D,{cls:= .type "list",data:= .seq its.toArray k})] E O s3:=I3.pins_of λp hp=>by
  rw[ww.mp hp];exact(xI,pe,G,ag,λv z=>by cases z)
 have pf:∀{H':Hp},(∀b∈fp,H' b=none)->∀b∈fp,z4i (j9 X scope (xs++fr) C cells s H fp pins) [(D,{cls:= .type "list",data:= .seq its.toArray k})] H' b:=λ{H'} hn b f=>by
  obtain⟨e1,e2⟩:=I3.ok.exf b f;refine(hn b f,e1,I3.ok.exfs b f,.inl f,e2,λp hp=>?_);rcases wE.mp hp with hp|hp
  .exact(Z b f).2.2.2.2.2 p hp
  .rw [ww.mp hp];have:=P b f;exact QL this
 rcases dW with⟨stop,q⟩|⟨go,NY,NN,xK,xL,step⟩
 .refine thn (T.done (j9 X scope (xs++fr) C cells s H fp pins) rfl rfl rfl hc i _ s3 _ O _ M (pf iW) ax stop) ?_;rintro r x ⟨hr,U⟩;subst hr;have xM:=(U.pin (D,{cls:= .type "list",data:= .seq its.toArray k}) (wC _ (ww.mpr rfl))).1;obtain⟨m,hn,_⟩:=U.loc;exact hR x ys O (m,hn) q pe U.free λh' sb=>zcr I Z U j N nG pe xM nI (w1D bq) sb
 .refine thn (T.item (j9 X scope (xs++fr) C cells s H fp pins) rfl rfl rfl hc i _ s3 _ O _ M (pf iW) ax go) ?_;rintro r x ⟨u,hr,h4⟩;subst hr;refine thn h4 ?_;rintro _ s5 ⟨v,H5,I5,r5,y5,gi,oV⟩;have ac:=I5.pinned (pf oV) (T.obj _ _ gi);refine Qa (gC C cells s H fp pins _ s5 _ H5 v u _ ac r5 (step v H5 y5)) (?_) λV V z=>z.elim
  rintro _ s6 ⟨σ6,H6,I6,u5,q6⟩;refine Qa (dU C cells s H fp pins _ s6 _ H6 _ I6 q6) (?_) λV V z=>z.elim
  rintro b s7 ⟨H7,I7,Y⟩;have u6:∀{B:Hp} {l:Shared} {σ8:St},Inv (j9 X scope (xs++fr) C cells s H fp pins) ([(D,{cls:= .type "list",data:= .seq its.toArray k})]++z5h fp s5.heap) σ8 B l->tn (i+1) l.heap/\(∀b∈fp,B b=none)/\l.heap.get? D=some {cls:= .type "list",data:= .seq its.toArray k}/\B D=none:=λ{B l σ8} t=>by
   refine(T.keep _ _ _ gi λb f o e=>(t.pin (b,o) (wC _ (wC _ (z1s f e)))).1,λb f=>?_,?_,?_)
   .obtain⟨o,e,d⟩:=T.obj _ _ gi b f;exact(t.pin (b,o) (wC _ (wC _ (z1s f e)))).2.1
   .exact(t.pin (D,{cls:= .type "list",data:= .seq its.toArray k}) (wC _ (q5 _ (ww.mpr rfl)))).1
   .exact(t.pin (D,{cls:= .type "list",data:= .seq its.toArray k}) (wC _ (q5 _ (ww.mpr rfl)))).2.1
  cases b with
  | false=>
   rw[wW wU]at Y ⊢;obtain⟨m',hm,w7⟩:=xL _ Y;obtain⟨t1,t2,L,t4⟩:=u6 I7;exact(m',hm,i+1,ys,its,k,σ6,H7,I7.pins_of λp hp=>(by cases hp),t1,t2,L,t4,nI,u5,w7)
  | true=>
   rw[qd rfl]at Y ⊢;refine Qa (dS C cells s H fp pins _ s7 _ H7 _ I7 Y) (?_) λV V z=>z.elim
   rintro y l ⟨w,B,t,r8,q8⟩;obtain⟨m',hm,w8⟩:=xK _ _ q8;obtain⟨t1,t2,L,t4⟩:=u6 t;refine w20 F.slot_list_append (_,L,rfl) F.entry_list_append (F.args_list_append_2 _ _) (PySem.list_append D its.toArray k y (by rw[wB];lia)) (L,?_);obtain⟨k9,xN⟩:∃k9,(l.heap.update D (Obj.mapSeq (·.push y))).get? D=some {cls:= .type "list",data:= .seq (its++[y]).toArray k9}:=(_,by
    rw[show(its++[y]).toArray=its.toArray.push y by simp];exact PySem.IsL.update L (·.push y))
   have ae:Inv (j9 X scope (xs++fr) C cells s H fp pins) [] σ6 B l:=t.pins_of λp hp=>(by cases hp)
   have I9:=Inv.turned (it:=D) (t':=l.toks) (h':=l.heap.update D (Obj.mapSeq (·.push y))) ae (λb o f e=>(Qi l.heap _ (w1G f)).trans e) t4 G (.inr j) cM (λp hp=>xH p (by simpa using hp));exact(m',hm,i+1,ys++[w],its++[y],k9,σ6,B,I9,T.keep _ _ _ t1 λb f o e=>(Qi l.heap _ (QL (P b f))).trans e,t2,xN,t4,nI.append (.cons r8 .nil),u5,w8)
theorem zcq{R:VK->St->It->Hp->Prop}(conv:∀Q σ J H1,R Q σ J H1->z2t J g tc te (λys H2=>∀p,H2 p=none->Q (.ref p) (upd H2 p (.lst ys))) (z87 σ ix (List.replicate xs.length none)) H1)(hc:X.calm=true)(S:CompScG X scope xs fr ix)(hi:PI X tg iter wi)(z:∀C cells s₀ H₀ ex pins,PG (j9 X scope (xs++fr) C cells s₀ H₀ ex pins) tg g)
  (u:∀C cells s₀ H₀ ex pins,z7t (j9 X scope (xs++fr) C cells s₀ H₀ ex pins) bg tc) (l:∀C cells s₀ H₀ ex pins,PE (j9 X scope (xs++fr) C cells s₀ H₀ ex pins) bz te)
  (hs:autoParam (∀x,foldedSetIterable iter X.env x=pure x) z_b._auto_1):PE X (.ListComp bz [(tg,iter,bg,0)] scope pos) (λσ H Q=>wi σ H λJ H1=>R Q σ J H1):=by
 intro pins s σ H Q I h;rw[eval_ListComp];have f:∀y∈scope.names,y.2= .free->∃c,X.env.cells.lookup y.1=some c:=λy i n=>I.ok.has y.1 (S.clo y i n)
 refine wpAny_comprehension_free (use:=none) rfl hs (z04 f) S.kind S.names (thn (hi pins s σ H _ I h) λv s1 h1=>thn h1 λG s2 h2=>?_);obtain⟨it,fp,tn,J,H2,rfl,D,T,d,f2,B⟩:=h2;refine w0S (z48 ?_);have j:tn 0 (pushCells ((s2.heap.push jm).push z0e) scope.names):=T.keep _ _ _ d λb a o e=>w0U _ _ b o (wu _ (wu _ e))
 have loop:=z4H (iter:=iter) (pos:=pos) (R:=compPost (model X.prog X.w) X.A X.xe none (EP X pins σ Q) (.ref s2.heap.objs.size) (s2.heap.push jm).objs.size) hc S l u z D T d f2 (conv _ _ _ _ B)
  (λF ys H4 ⟨m,hn⟩ q r E a=>(m,hn,λh' t=>(.ref s2.heap.objs.size,_,a h' t,rfl,q _ r)))
 exact codeAny_compStart_list loop (T.self _ _ _ _ _ j loop)
def zau(j:Nat)(wi:TI)(n:Nat)(ix:List Nat)(g:TG)(tc:TT)(te:TE):TS:=λD σ H=>wi σ H λJ H1=>z2t J g tc te (λys H2=>∀p,H2 p=none->D.nx (σ.set j (some (.ref p))) (upd H2 p (.lst ys))) (z87 σ ix (List.replicate n none)) H1
theorem z43{R:Ends->St->It->Hp->Prop}(conv:∀D σ J H1,R D σ J H1->z2t J g tc te (λys H2=>∀p,H2 p=none->D.nx (σ.set j (some (.ref p))) (upd H2 p (.lst ys))) (z87 σ ix (List.replicate xs.length none)) H1)(hc:X.calm=true)(G:X.N.Nodup)(P:X.N[j]? =some y)(n:Loc X.env.scope y)(S:CompScG X scope xs fr ix)(hi:PI X tg iter wi)(Z:∀C cells s₀ H₀ ex pins,PG (j9 X scope (xs++fr) C cells s₀ H₀ ex pins) tg g)
  (Y:∀C cells s₀ H₀ ex pins,z7t (j9 X scope (xs++fr) C cells s₀ H₀ ex pins) bg tc) (dS:∀C cells s₀ H₀ ex pins,PE (j9 X scope (xs++fr) C cells s₀ H₀ ex pins) bz te)
  (hs:autoParam (∀x,foldedSetIterable iter X.env x=pure x) z_b._auto_1)
  (l9:(swapsWith (.ListComp bz [(tg,iter,bg,0)] scope pos) (some (.Name y py)) c9.line X.env=pure true)⁻¹)
  (U:autoParam (X.fn y=true\/X.env.scope.names.lookup y=some .local) z_a._auto_1):
  PS X (.Assign [.Name y py] (.ListComp bz [(tg,iter,bg,0)] scope pos) c9) (λD σ H=>wi σ H λJ H1=>R D σ J H1):=by
 intro pins s σ H D I h;rw[exec_Assign_Name_used _ _ _ _ l9];refine wD (wpAny_standAt (wD ?_))
 show wpAny _ X.A (do let _<-comprehension (.ListComp bz [(tg,iter,bg,0)] scope pos) scope X.env _ (newList []) false (eval iter X.env) (some (assign (.Name y py) X.env))) _ _ s
 have F:∀y∈scope.names,y.2= .free->∃c,X.env.cells.lookup y.1=some c:=λy n M=>I.ok.has y.1 (S.clo y n M)
 refine wD (Qa (wpAny_comprehension_free (use:=some (assign (.Name y py) X.env)) (Q:=λk s'=>SP X pins D .next s') rfl hs (z04 F) S.kind S.names
  (thn (hi pins s σ H _ I h) λv s1 h1=>thn h1 λnA s2 h2=>?_)) (λk s' hq=>q9 (q9 hq)) λk k e=>e)
 obtain⟨it,fp,tn,J,H2,rfl,d,T,E,f2,hw⟩:=h2;refine w0S (z48 ?_);have L:tn 0 (pushCells ((s2.heap.push jm).push z0e) scope.names):=T.keep _ _ _ E λb i o e=>w0U _ _ b o (wu _ (wu _ e))
 have f:(s2.heap.push jm).objs.size=s2.heap.objs.size+1:=Qo ..;have loop:=z4H (iter:=iter) (pos:=pos) (R:=compPost (model X.prog X.w) X.A X.xe (some (assign (.Name y py) X.env)) (λk s'=>SP X pins D .next s') (.ref s2.heap.objs.size) (s2.heap.push jm).objs.size) hc S dS Y Z d T E f2 (conv _ _ _ _ hw)
  (λt ys H4 ⟨m,hn⟩ q nD r i=>by
   have I5:Inv X pins σ (upd H4 s2.heap.objs.size (.lst ys)) t:=i t.heap (Heap.SameBut.refl ..);have u:(s2.heap.push jm).objs.size≠X.env.locals:=by rw[f];exact QL (Qc d.lt)
   have B:∀z c,X.env.cells.lookup z=some c->c≠(s2.heap.push jm).objs.size:=λz c e=>by
    obtain⟨v,w⟩:=d.cell z c e;rw[f];exact qc (Qc w.lt)
   show wpAny _ X.A (assign (.Name y py) X.env (.ref s2.heap.objs.size)) _ _ t
   refine wpAny_assign_Name (z63 (v:= .ref s2.heap.objs.size) I5 G P n rfl (?_) U);rintro s6 O ⟨a,sa,ha⟩;have aC:(s2.heap.push jm).objs.size≠a:=by
    rcases ha with e|e
    .rw [e];exact u
    .exact(B _ _ e).symm
   refine(m,hn.sameBut sa aC,λh6 l=>?_);have K:upd H4 s2.heap.objs.size (.lst ys) (s2.heap.push jm).objs.size=none:=by
    rw[zj (by rw[f];exact Nat.succ_ne_self _)];exact r
   have I7:=Inv.turned (it:=(s2.heap.push jm).objs.size) (t':=s6.toks) (h':=h6) O (λb o i e=>(l.2 b i).trans e) K u (.inr (by rw[f];exact Nat.le_succ_of_le d.sz)) B (λp hp=>by
    rw[f];exact qc (Qc (wQ (d.pin p hp).1)))
   exact(_,_,I7,q _ nD))
 exact codeAny_compStart_list loop (T.self _ _ _ _ _ L loop)
theorem z7Q(hc:X.calm=true)(c:X.N.Nodup)(a:X.N[j]? =some y)(b:Loc X.env.scope y)(S:CompScG X scope xs fr ix)(hi:PI X tg iter wi)(i:∀C cells s₀ H₀ ex pins,PG (j9 X scope (xs++fr) C cells s₀ H₀ ex pins) tg g)
  (f:∀C cells s₀ H₀ ex pins,z7t (j9 X scope (xs++fr) C cells s₀ H₀ ex pins) bg tc) (d:∀C cells s₀ H₀ ex pins,PE (j9 X scope (xs++fr) C cells s₀ H₀ ex pins) bz te)
  (hs:autoParam (∀x,foldedSetIterable iter X.env x=pure x) z_b._auto_1)
  (l:(swapsWith (.ListComp bz [(tg,iter,bg,0)] scope pos) (some (.Name y py)) c9.line X.env=pure true)⁻¹)
  (e:autoParam (X.fn y=true\/X.env.scope.names.lookup y=some .local) z_a._auto_1):
  PS X (.Assign [.Name y py] (.ListComp bz [(tg,iter,bg,0)] scope pos) c9) (zau j wi xs.length ix g tc te):=z43 (λv v v v h=>h) hc c a b S hi i f d hs l e
end
section
variable{px:Pos}{pos:Pos}
theorem CompSc.g(S:CompSc X scope x fr ix):CompScG X scope [x] fr ix:=(S.kind,S.names,S.uniq,S.clo,S.free,S.nd,S.len)
theorem CompSc.pg(S:CompSc X scope x fr ix)(C:Addr)(cells:List (Str×Addr))(s₀:Shared)(H₀:Hp)(ex:List Addr)(pins:List (Addr×Obj)):PG (j9 X scope ([x]++fr) C cells s₀ H₀ ex pins) (.Name x px) (z24 0):=by
 rcases S.xloc with h|h
 .have a:(j9 X scope ([x]++fr) C cells s₀ H₀ ex pins).env.scope.names.lookup x=some .local:=yo (env:=X.env) h;exact z0D (i:=0) S.nd rfl (.inl a) (.inr a)
 .have a:(j9 X scope ([x]++fr) C cells s₀ H₀ ex pins).env.scope.names.lookup x=some .cell:=yo (env:=X.env) h;exact z0D (i:=0) S.nd rfl (.inr a) (.inl (wN (Q2 h)))
theorem zaa{σ:St}{H1:Hp}(h:z0n J σ ix tc te Q H1):z2t J (z24 0) tc te Q (z87 σ ix (List.replicate 1 none)) H1:=by
 obtain⟨W,w0,hs⟩:=h;refine(λσ'=>∃a,σ'=sub σ ix a,W,(none,rfl),w0,?_);rintro i m ys _ H ⟨a,rfl⟩ w;obtain⟨l,o⟩:=hs i m ys H w;exact(l,o.imp id λ⟨g,e,c,b,d,t⟩=>(g,e,c,b,d,λx H' y=>((some x,rfl),t x H' y)))
def zfU(wi:TI)(ix:List Nat)(tc:TT)(te:TE):TE:=λσ H Q=>wi σ H λJ H1=>z0n J σ ix tc te (λys H2=>∀p,H2 p=none->Q (.ref p) (upd H2 p (.lst ys))) H1
theorem jB(hc:X.calm=true)(S:CompSc X scope x fr ix)(hi:PI X (.Name x px) iter wi)
  (b:∀C cells s₀ H₀ ex pins,z7t (j9 X scope (x::fr) C cells s₀ H₀ ex pins) bg tc) (a:∀C cells s₀ H₀ ex pins,PE (j9 X scope (x::fr) C cells s₀ H₀ ex pins) bz te)
  (hs:autoParam (∀x,foldedSetIterable iter X.env x=pure x) z_b._auto_1):PE X (.ListComp bz [(.Name x px,iter,bg,0)] scope pos) (zfU wi ix tc te):=zcq (xs:= [x]) (R:=λQ σ J H1=>z0n J σ ix tc te (λys H2=>∀p,H2 p=none->Q (.ref p) (upd H2 p (.lst ys))) H1) (λv v v v h=>zaa h) hc S.g hi S.pg b a hs
def zbK(j:Nat)(wi:TI)(ix:List Nat)(tc:TT)(te:TE):TS:=λD σ H=>wi σ H λJ H1=>z0n J σ ix tc te (λys H2=>∀p,H2 p=none->D.nx (σ.set j (some (.ref p))) (upd H2 p (.lst ys))) H1
theorem y0(hc:X.calm=true)(c:X.N.Nodup)(a:X.N[j]? =some y)(b:Loc X.env.scope y)(S:CompSc X scope x fr ix)(hi:PI X (.Name x px) iter wi)
  (f:∀C cells s₀ H₀ ex pins,z7t (j9 X scope (x::fr) C cells s₀ H₀ ex pins) bg tc) (d:∀C cells s₀ H₀ ex pins,PE (j9 X scope (x::fr) C cells s₀ H₀ ex pins) bz te)
  (hs:autoParam (∀x,foldedSetIterable iter X.env x=pure x) z_b._auto_1)
  (i:(swapsWith (.ListComp bz [(.Name x px,iter,bg,0)] scope pos) (some (.Name y py)) c9.line X.env=pure true)⁻¹)
  (e:autoParam (X.fn y=true\/X.env.scope.names.lookup y=some .local) z_a._auto_1):
  PS X (.Assign [.Name y py] (.ListComp bz [(.Name x px,iter,bg,0)] scope pos) c9) (zbK j wi ix tc te):=z43 (xs:= [x]) (R:=λD σ J H1=>z0n J σ ix tc te (λys H2=>∀p,H2 p=none->D.nx (σ.set j (some (.ref p))) (upd H2 p (.lst ys))) H1) (λv v v v h=>zaa h) hc c a b S.g hi S.pg f d hs i e
end
end L2

namespace L2
open PySem PySem.Spec PyProof.Rows
noncomputable def z71(sx:Scope)(NX:List Str)(scope:Scope)(x:Str)(fr:List Str)(ix:List Nat):Bool:=
 (scope.kind == .function)&&scope.names.all (λy=>y.2 != .local||scope.names.lookup y.1 == some .local)&&decide ((scope.names.map (·.1)).Nodup) &&
 (scope.names.lookup x == some .local||scope.names.lookup x == some .cell)&&scope.names.all (λy=>y.2 != .free||(sx.names.lookup y.1 == some .cell||sx.names.lookup y.1 == some .free)) &&
 decide (fr.length=ix.length)&&decide ((x::fr).Nodup)&&(fr.zip ix).all λp=>NX[p.2]? == some p.1&&scope.names.lookup p.1 == some .free
variable{X:Cx}{x:Str}{fr:List Str}{ix:List Nat}{scope:Scope}{NX:List Str}
theorem CompSc.of{sx:Scope}(hs:X.env.scope=sx)(f:X.N=NX)(h:z71 sx NX scope x fr ix=true):CompSc X scope x fr ix:=by
 simp only[z71,Qb,w0V,QC,qS,Bool.or_eq_true,bne_iff_ne,ne_eq]at h;obtain⟨⟨⟨⟨⟨⟨⟨h1,h2⟩,d⟩,j⟩,i⟩,c⟩,n⟩,l⟩:=h;refine(h1,λy b a=>?_,d,j,λy b a=>?_,λk y e=>?_,n,c)
 .rcases h2 y b with q|q
  .exact absurd a q
  .exact q
 .show X.env.scope.names.lookup y.1=_\/X.env.scope.names.lookup y.1=_
  rw[hs];rcases i y b with q|q
  .exact absurd a q
  .exact q
 .have a:k<ix.length:=by rw[<-c];exact(wg.mp e).1
  have hz:(fr.zip ix)[k]? =some (y,ix[k]):=by
   rw[List.getElem?_zip_eq_some];exact(e,we a)
  obtain⟨a1,a2⟩:=l _ (qN hz);exact(ix[k],we a,by rw[f];exact a1,a2)
noncomputable def zeG(scope sx:Scope):Scope:=
 {scope with names:=scope.names.map λ(n,k)=>if(k == .free&&sx.kind == .function&&sx.names.lookup n == some .cell)then(n,.cell)else(n,k)}
theorem CompSc.of2{a sx:Scope}{b:List Str}{C:Addr}{cells:List (Str×Addr)}{s₀:Shared}{H₀:Hp}{ex:List Addr}{pins:List (Addr×Obj)}(hs:X.env.scope=sx)(c:b=NX)(h:z71 (zeG a sx) NX scope x fr ix=true):
  CompSc (j9 X a b C cells s₀ H₀ ex pins) scope x fr ix:=by
 refine CompSc.of (sx:=zeG a sx) ?_ c h;subst hs
 rfl
variable{a:Addr}{xs:List V}{tc:TT}{te:TE}{Q:List V->Hp->Prop}{H:Hp}{σ:St}
theorem z0F{K:W.Frag}(c:Nat->List V->Hp->Prop)(h0:c 0 [] H)(hl:∀i ys H,i<=xs.length->c i ys H->SqL K H a xs/\ys.length<sizeLine)
  (hs:∀(i:Nat) x ys H,xs[i]? =some x->c i ys H->tc (sub σ ix (some x)) H λb H2=>if b=true then te (sub σ ix (some x)) H2 λy d=>c (i+1) (ys++[y]) d else c (i+1) ys H2) (hd:∀ys H,c xs.length ys H->Q ys H):z0n (Itl K a) σ ix tc te Q H:=by
 refine(λi m ys H=>m=xs.length-i/\i<=xs.length/\c i ys H,(_,rfl,qU _,h0),?_);rintro i m ys H ⟨rfl,hi,p⟩;obtain⟨q,hz⟩:=hl i ys H hi p;refine(hz,?_);by_cases af:i<xs.length
 .refine .inr ((xs,xs[i],q,by simp[af]),λy d=>c (i+1) (ys++[y]) d,λH2=>c (i+1) ys H2,λy d z=>(xs.length-(i+1),by lia,rfl,af,z),λH2 z=>(xs.length-(i+1),by lia,rfl,af,z),λx H' y=>?_);obtain⟨e,y⟩:=y;subst e;exact hs i x ys _ (y xs q) p
 .have e:i=xs.length:=by lia
  subst e;exact .inl ((xs,q,wA _),hd ys H p)
variable{lo:Int}{n:Nat}
theorem z97(a:Nat->List V->Hp->Prop)(h0:a 0 [] H)(hl:∀i ys H,i<=n->a i ys H->ys.length<sizeLine)
  (hs:∀(i:Nat) ys H,i<n->a i ys H->tc (sub σ ix (some (.int (lo+i)))) H λb H2=>if b=true then te (sub σ ix (some (.int (lo+i)))) H2 λy c=>a (i+1) (ys++[y]) c else a (i+1) ys H2) (hd:∀ys H,a n ys H->Q ys H):z0n (Itr lo n) σ ix tc te Q H:=by
 refine(λi m ys H=>m=n-i/\i<=n/\a i ys H,(_,rfl,qU _,h0),?_);rintro i m ys H ⟨rfl,hi,p⟩;refine(hl i ys H hi p,?_);by_cases af:i<n
 .refine .inr (af,λy c=>a (i+1) (ys++[y]) c,λH2=>a (i+1) ys H2,λy c z=>(n-(i+1),by lia,rfl,af,z),λH2 z=>(n-(i+1),by lia,rfl,af,z),λx H' y=>?_);obtain⟨e,y⟩:=y;subst e y;exact hs i ys _ af p
 .have e:i=n:=by lia
  subst e;exact .inl (wA _,hd ys H p)
def jc{K:W.Frag}(b:Nat->List V->Hp->Prop)(h0:b 0 [] H)(hl:∀i ys H,i<=xs.length->b i ys H->SqL K H a xs/\ys.length<sizeLine)
  (hs:∀(i:Nat) x ys H,xs[i]? =some x->b i ys H->te (sub σ ix (some x)) H λy c=>b (i+1) (ys++[y]) c) (hd:∀ys H,b xs.length ys H->Q ys H):z0n (Itl K a) σ ix z7N te Q H:=
 z0F b h0 hl (λi x ys H e p=>z8W (A:=te (sub σ ix (some x)) H λy c=>b (i+1) (ys++[y]) c) (B:=b (i+1) ys H) (hs i x ys H e p)) hd
def z0f(a:Nat->List V->Hp->Prop)(h0:a 0 [] H)(hl:∀i ys H,i<=n->a i ys H->ys.length<sizeLine)
  (hs:∀(i:Nat) ys H,i<n->a i ys H->te (sub σ ix (some (.int (lo+i)))) H λy b=>a (i+1) (ys++[y]) b) (hd:∀ys H,a n ys H->Q ys H):z0n (Itr lo n) σ ix z7N te Q H:=
 z97 a h0 hl (λi ys H e p=>z8W (A:=te (sub σ ix (some (.int (lo+i)))) H λy b=>a (i+1) (ys++[y]) b) (B:=a (i+1) ys H) (hs i ys H e p)) hd
theorem za5:∀(us:List Value) (ss:List Str),us.length=ss.length->(∀(j:Nat) (u:Value),us[j]? =some u->∃x t,ss[j]? =some x/\u=Value.str x t)->StrsAre us ss
 | [],[],_,_=> .nil
 | [],_::_,h,_=>by simp at h
 | _::_,[],h,_=>by simp at h
 | u::us,s::ss,h,a=>by
  obtain⟨x,t,b,c⟩:=a 0 u rfl;have d:s=x:=Option.some.inj b;subst d c;exact .cons _ _ (za5 us ss (by simpa using h) λj f e=>a (j+1) f e)
def z5N:∀{us:List Value} {ss:List Str},StrsAre us ss->zM (ss.map V.str) us
 | _,_,.nil=> .nil
 | _,_,.cons _ t r=> .cons (t,rfl) (z5N r)
theorem z5q(hc:X.calm=true):ki X (.builtin "sorted") (λxs H Q=>∃d kvs ss,xs= [.ref d]/\H d=some (.dK kvs)/\kvs.map (·.1)=ss.map Sum.inr/\kvs.length<64/\
  ∀l c,H l=none->c.Perm ss->sortedS c=true->Q (.ref l) (upd H l (.lst (c.map V.str)))):=by
 intro pins s σ H xs us Q I r h;obtain⟨d,kvs,ss,rfl,hd,R,iu,q⟩:=h;obtain⟨u,rfl,M⟩:=vals1 r;cases M;obtain⟨hz,Z,vs,rel,m⟩:kvs.length<=sizeLine/\(d == sysModules)=false/\∃vs,KV kvs vs/\s.heap.DictOf (jw X.prog X.w) d vs:=I.hok d _ hd
 obtain⟨ep,S⟩:=m.dictAt;have hlen:kvs.length=vs.length:=Paired.length rel;have F:vs.map (·.1)=ss.map Sum.inr:=(KV.keys rel).symm.trans R;have T:vs.length=ss.length:=by
  have:=Qd List.length F
  rwa [w9,w9]at this
 refine Calls.call_function_entry kind_sorted plain_sorted entry_sorted (args_sorted1 _) ?_;unfold Builtin.«sorted»;refine wD (m:=checkCount "sorted" 1 1 _) (q9 ?_);refine wD (PySem.W.kdu_collect (A:=X.A.in1) (PySem.W.kdl_dict (knd:=jw X.prog X.w) (kvs:=vs) (ep:=ep) Z) (I.ok.hd hc) S (by lia) λh' tk acc nJ J=>?_);obtain⟨N,P⟩:=J;have hl:acc.toList.length=ss.length:=by rw[w10,N,T]
 have p:StrsAre acc.toList ss:=za5 _ _ hl λj u e=>by
  obtain⟨k,x,L,U⟩:=P j u (by rw[<-Array.getElem?_toList];exact e);have z:j<ss.length:=by rw[<-hl];exact(wg.mp e).1
  have G:(vs.map (·.1))[j]? =some k:=by rw[wM,L];rfl
  rw[F,wM,we z]at G;have K:(Sum.inr ss[j]:Key)=k:=Option.some.inj G;subst K;rcases jx (show z47 (Sum.inr ss[j]) u=true from U)with⟨i,t,e3,_⟩|⟨y,t,e3,e4⟩
  .cases e3
  .cases e3;exact(_,t,we z,e4)
 have Y:acc.toList.length<64:=by lia
 have C:Inv X pins σ H {s with heap:=h',toks:=tk}:=I.kept nJ;refine wD (wpAny_newList ?_ (jb (by lia)));have f:(h'.push (seqObj "list" acc.toList.toArray 0)).get? h'.objs.size=some (seqObj "list" acc.toList.toArray 0):=qh _ rfl;refine wD (QO (wpAny_call_entry slot_list_sort (_,f,rfl) entry_list_sort (list_sort_treeK strKind_oneLt f p.keysOf (λB D rest e=>keyKind_strs (by rw[<-e];exact p)) Y λn a1 a2=>(_,rfl,?_)) (args_list_sort _)));refine q9 (_,rfl,?_);obtain⟨c,b1,b2,O⟩:=sorted_out_str p a1 a2;obtain⟨e,he⟩:=sortedHeap_at (out:=(arrOf n).map (·.2)) f;refine(.ref h'.objs.size,upd H h'.objs.size (.lst (c.map V.str)),?_,rfl,q _ c C.fresh b2 O);refine C.laid (a:=h'.objs.size) (t':=tk) (λb o e=>?_) (wA _) (?_,_,e,z5N b1,?_)
 .have E:=wQ e;rw[sortedHeap_old (qc E) (by rw[Qo];exact Qc E)];exact wu _ e
 .rw [w9,b2.length_eq];exact jb (by lia)
 .show(sortedHeap (h'.push (seqObj "list" acc.toList.toArray 0)) h'.objs.size acc.toList ((arrOf n).map (·.2))).get? h'.objs.size=some (seqObj "list" ((arrOf n).map (·.2)).toList.toArray e)
  rw[Array.toArray_toList];exact he
def leS(a b:Str):Prop:=¬b.cps.toList<a.cps.toList
def zaJ{a b c:Str}(h1:leS a b)(h2:leS b c):leS a c:=List.le_trans (α:=Nat) h1 h2
theorem zd1{a b:Str}(h:(!ltCps b.cps.toList a.cps.toList)=true):leS a b:=by
 rw[ltCps_eq,Bool.not_eq_true',decide_eq_false_iff_not]at h;exact h
theorem z65:∀(p:Str) (l:List Str),risingS p l=true->(p::l).Pairwise leS
 | p,[],_=>List.pairwise_singleton _ _
 | p,x::r,h=>by
  rw[show risingS p (x::r)=(!ltCps x.cps.toList p.cps.toList&&risingS x r)from rfl,Qb]at h;have a:=z65 x r h.2;refine List.pairwise_cons.mpr (λy hy=>?_,a);rcases wL.mp hy with e|hy
  .rw [e];exact zd1 h.1
  .exact zaJ (zd1 h.1) (List.rel_of_pairwise_cons a hy)
def zaC:∀{l:List Str},sortedS l=true->l.Pairwise leS
 | [],_=> .nil
 | x::r,h=>z65 x r h
theorem kf{α:Type} [DecidableEq α]:∀{l us:List α},l.Nodup->(∀x∈l,x∈us)->l.length<=us.length
 | [],_,_,_=>qU _
 | x::l,us,hn,hs=>by
  obtain⟨h1,h2⟩:=w0a.mp hn;have a:x∈us:=hs x qy;have c:=kf (l:=l) (us:=us.erase x) h2 λy b=>(List.mem_erase_of_ne (λe=>h1 (by rw[<-e];exact b))).mpr (hs y (wZ _ b))
  rw[List.length_erase_of_mem a]at c;have:0<us.length:=List.length_pos_of_mem a;rw[wP]
  lia
def z27{i:Nat}{v:V}{Q:St->Hp->Prop}(h:Q (σ.set i (some v)) H):z24 i v σ H Q:=h
def z3A{t u:TS}{D:Ends}(h:t {D with nx:=u D} σ H):z1R t u D σ H:=h
variable{t:TA}{es:List Expr}
section
variable{K:W.Frag}
theorem yA(h:X.K=K):IxR X (zfb K):=by subst h;exact z9Z
theorem z09(h:X.K=K):IxR X (zeM K):=by subst h;exact zbP
theorem z8X(h:X.K=K):OpR X (compareOp .In) (rIn K false):=by subst h;exact kR
theorem z5j(h:X.K=K):ki X (.builtin "len") (λxs H Q=>∃p ys,xs= [.ref p]/\(SqL K H p ys\/SqT K H p ys)/\Q (.int ys.length) H):=by subst h;exact z38
theorem z2H(h:X.K=K):ki X (.type "list") (λxs H Q=>∃p ys,xs= [.ref p]/\(SqL K H p ys\/SqT K H p ys)/\∀l,H l=none->Q (.ref l) (upd H l (.lst ys))):=by subst h;exact yJ
theorem z68(h:X.K=K):MtM X "list.index" (zbD K):=by subst h;exact yf
theorem z7p{tg l:Expr}{tl:TE}(h:X.K=K)(hl:PE X l tl):PI X tg l (zeD K tl):=by subst h;exact zT hl
theorem zd8{o e:Expr}{to:TE}{name:Str}{apos ad:Pos}{T id:String}{r:V->List V->Hp->VK->Prop}(h:X.K=K)(b:PlainAttrs T)(slot:Slot T name id)(f:typeOf (.builtin id)=pure (.type "method_descriptor"))(hm:MtR X id r)(a:PE X o to)(ha:PA X (e::es) t)
  (d:(attributeBase o name X.env (eval o X.env)=eval o X.env)⁻¹)
  (i:((backTo ad (starEach (e::es) X.env)).all (λx=> !x.1)&&(backToKw ad (keywordEach [] X.env)).all (λx=>x.1.isSome)
   && decide ((e::es).length+([]:List Keyword).length+(if([]:List Keyword).isEmpty then 0 else 1)<30))=true:=by rfl)
  (c:((apos.endLine == ad.line)=true)⁻¹) (hs:(starEach (e::es) X.env=(false,eval e X.env)::starEach es X.env)⁻¹) (hplain:((backTo ad (starEach es X.env)).any (·.1)=false)⁻¹):
  PE X (.Call (.Attribute o name apos) (e::es) [] ad) (tBM K T r to t):=by
 subst h;exact kg b slot f hm a ha d i c hs hplain
end
def zr{a b c}(ha:PE X (.Constant a b c) te)(hr:PA X es t):PA X (.Constant a b c::es) (z20 te t):=zP ha hr
def za{a b}(ha:PE X (.Name a b) te)(hr:PA X es t):PA X (.Name a b::es) (z20 te t):=zP ha hr
def zQ{a b c}(ha:PE X (.Tuple a b c) te)(hr:PA X es t):PA X (.Tuple a b c::es) (z20 te t):=zP ha hr
def yq{a b c d}(ha:PE X (.BinOp a b c d) te)(hr:PA X es t):PA X (.BinOp a b c d::es) (z20 te t):=zP ha hr
def zl{a b c}(ha:PE X (.Subscript a b c) te)(hr:PA X es t):PA X (.Subscript a b c::es) (z20 te t):=zP ha hr
def zK{a b c d}(ha:PE X (.Call a b c d) te)(hr:PA X es t):PA X (.Call a b c d::es) (z20 te t):=zP ha hr
def jH{a b}(ha:PE X (.List a b) te)(hr:PA X es t):PA X (.List a b::es) (z20 te t):=zP ha hr
def ze4{a b c}(ha:PE X (.UnaryOp a b c) te)(hr:PA X es t):PA X (.UnaryOp a b c::es) (z20 te t):=zP ha hr
def z9v{a b c d}(ha:PE X (.Compare a b c d) te)(hr:PA X es t):PA X (.Compare a b c d::es) (z20 te t):=zP ha hr
def z0w{a b c d}(ha:PE X (.ListComp a b c d) te)(hr:PA X es t):PA X (.ListComp a b c d::es) (z20 te t):=zP ha hr
theorem z4t{a b:Int}{k1 k2}{c p2 d:Pos}(hc:zg4 a b):PE X (.BinOp (.Constant (.int a) k1 c) .Pow (.Constant (.int b) k2 p2) d) (tC (.int (a ^ b.toNat))):=by
 intro pins s σ H Q I h;exact(zo zfL zd zd) pins s σ H Q I (a,b,rfl,rfl,hc,h)
end L2

namespace L2
open PySem PySem.Spec PyProof.Rows
def tL:List (W.Frag->TS)->W.Frag->TS
 | [],_=>z3a
 | a::b,K=>z1R (a K) (tL b K)
structure NmF(a b:W.Frag->TS):Prop where
 e:∀K,a K=b K
structure ClF(a:W.Frag->TS)(bs:List (W.Frag->TS)):Prop where
 e:∀K,a K=tL bs K
variable{D:Ends}{H:Hp}
section
variable{a a' b b1 b2:W.Frag->TS}{bs aS cO:List (W.Frag->TS)}{c:W.Frag->TT}{wi:W.Frag->TI}{g:W.Frag->TG}
theorem zf0:ClF (λv=>z3a) []:=⟨λv=>rfl⟩
theorem zdu(h0:NmF a a')(h2:ClF b bs):ClF (λK=>z1R (a K) (b K)) (a'::bs):=⟨λK=>by show z1R (a K) (b K)=z1R (a' K) (tL bs K);rw[h0.e,h2.e]⟩
theorem zeJ(h0:NmF a a'):ClF a [a']:=⟨λK=>by rw[h0.e];rfl⟩
theorem zfM(h1:ClF b1 aS)(h2:ClF b2 cO)(h:NmF (λK=>z6M (c K) (tL aS K) (tL cO K)) a'):NmF (λK=>z6M (c K) (b1 K) (b2 K)) a':=⟨λK=>by rw[h1.e,h2.e];exact h.e K⟩
theorem zeV(h1:ClF b1 aS)(h2:ClF b2 cO)(h:NmF (λK=>zcK (c K) (tL aS K) (tL cO K)) a'):NmF (λK=>zcK (c K) (b1 K) (b2 K)) a':=⟨λK=>by rw[h1.e,h2.e];exact h.e K⟩
theorem zbS(h1:ClF b1 aS)(h:NmF (λK=>z1q (c K) (tL aS K)) a'):NmF (λK=>z1q (c K) (b1 K)) a':=⟨λK=>by rw[h1.e];exact h.e K⟩
theorem zfK(h1:ClF b1 aS)(h:NmF (λK=>zaE (wi K) (g K) (tL aS K)) a'):NmF (λK=>zaE (wi K) (g K) (b1 K)) a':=⟨λK=>by rw[h1.e];exact h.e K⟩
theorem jd{K:W.Frag}{σ:St}{t:W.Frag->TS}(e:ClF t bs)(h:tL bs K D σ H):∀a,K=a->t a D σ H:=by
 rintro _ rfl;rw[e.e];exact h
end
def tL2:List (W.Frag->Addr->TS)->W.Frag->Addr->TS
 | [],_,_=>z3a
 | a::b,K,A=>z1R (a K A) (tL2 b K A)
structure NmF2(a b:W.Frag->Addr->TS):Prop where
 e:∀K A,a K A=b K A
structure ClF2(a:W.Frag->Addr->TS)(bs:List (W.Frag->Addr->TS)):Prop where
 e:∀K A,a K A=tL2 bs K A
variable{A:Addr}
section
variable{a a' b b1 b2:W.Frag->Addr->TS}{bs aS cO:List (W.Frag->Addr->TS)}{c:W.Frag->Addr->TT}{wi:W.Frag->Addr->TI}{g:W.Frag->Addr->TG}
theorem zdV:ClF2 (λv v=>z3a) []:=⟨λv v=>rfl⟩
theorem zbg(h0:NmF2 a a')(h2:ClF2 b bs):ClF2 (λK A=>z1R (a K A) (b K A)) (a'::bs):=⟨λK A=>by show z1R (a K A) (b K A)=z1R (a' K A) (tL2 bs K A);rw[h0.e,h2.e]⟩
theorem zdW(h0:NmF2 a a'):ClF2 a [a']:=⟨λK A=>by rw[h0.e];rfl⟩
theorem zft(h1:ClF2 b1 aS)(h2:ClF2 b2 cO)(h:NmF2 (λK A=>z6M (c K A) (tL2 aS K A) (tL2 cO K A)) a'):NmF2 (λK A=>z6M (c K A) (b1 K A) (b2 K A)) a':=⟨λK A=>by rw[h1.e,h2.e];exact h.e K A⟩
theorem ze7(h1:ClF2 b1 aS)(h2:ClF2 b2 cO)(h:NmF2 (λK A=>zcK (c K A) (tL2 aS K A) (tL2 cO K A)) a'):NmF2 (λK A=>zcK (c K A) (b1 K A) (b2 K A)) a':=⟨λK A=>by rw[h1.e,h2.e];exact h.e K A⟩
theorem zaw(h1:ClF2 b1 aS)(h:NmF2 (λK A=>z1q (c K A) (tL2 aS K A)) a'):NmF2 (λK A=>z1q (c K A) (b1 K A)) a':=⟨λK A=>by rw[h1.e];exact h.e K A⟩
theorem z0l{K:W.Frag}{σ:St}{t:W.Frag->Addr->TS}(e:ClF2 t bs)(h:tL2 bs K A D σ H):∀a,K=a->∀b,A=b->t a b D σ H:=by
 rintro _ rfl _ rfl;rw[e.e];exact h
end
def tL3:List (W.Frag->Addr->Addr->TS)->W.Frag->Addr->Addr->TS
 | [],_,_,_=>z3a
 | a::b,K,A,B=>z1R (a K A B) (tL3 b K A B)
structure NmF3(a b:W.Frag->Addr->Addr->TS):Prop where
 e:∀K A B,a K A B=b K A B
structure ClF3(a:W.Frag->Addr->Addr->TS)(bs:List (W.Frag->Addr->Addr->TS)):Prop where
 e:∀K A B,a K A B=tL3 bs K A B
section
variable{a a' b b1 b2:W.Frag->Addr->Addr->TS}{bs aS cO:List (W.Frag->Addr->Addr->TS)}{c:W.Frag->Addr->Addr->TT}{wi:W.Frag->Addr->Addr->TI}{g:W.Frag->Addr->Addr->TG}
theorem zeu:ClF3 (λv v v=>z3a) []:=⟨λv v v=>rfl⟩
theorem zc9(h0:NmF3 a a')(h2:ClF3 b bs):ClF3 (λK A B=>z1R (a K A B) (b K A B)) (a'::bs):=⟨λK A B=>by show z1R (a K A B) (b K A B)=z1R (a' K A B) (tL3 bs K A B);rw[h0.e,h2.e]⟩
theorem zec(h0:NmF3 a a'):ClF3 a [a']:=⟨λK A B=>by rw[h0.e];rfl⟩
theorem zf1(h1:ClF3 b1 aS)(h2:ClF3 b2 cO)(h:NmF3 (λK A B=>z6M (c K A B) (tL3 aS K A B) (tL3 cO K A B)) a'):NmF3 (λK A B=>z6M (c K A B) (b1 K A B) (b2 K A B)) a':=⟨λK A B=>by rw[h1.e,h2.e];exact h.e K A B⟩
theorem zb7(h1:ClF3 b1 aS)(h:NmF3 (λK A B=>z1q (c K A B) (tL3 aS K A B)) a'):NmF3 (λK A B=>z1q (c K A B) (b1 K A B)) a':=⟨λK A B=>by rw[h1.e];exact h.e K A B⟩
theorem zef(h1:ClF3 b1 aS)(h:NmF3 (λK A B=>zaE (wi K A B) (g K A B) (tL3 aS K A B)) a'):NmF3 (λK A B=>zaE (wi K A B) (g K A B) (b1 K A B)) a':=⟨λK A B=>by rw[h1.e];exact h.e K A B⟩
theorem z6l{K:W.Frag}{B:Addr}{σ:St}{t:W.Frag->Addr->Addr->TS}(e:ClF3 t bs)(h:tL3 bs K A B D σ H):∀a,K=a->∀b,A=b->∀c,B=c->t a b c D σ H:=by
 rintro _ rfl _ rfl _ rfl;rw[e.e];exact h
end
def tL4:List (W.Frag->Addr->Addr->Addr->TS)->W.Frag->Addr->Addr->Addr->TS
 | [],_,_,_,_=>z3a
 | a::b,K,A,B,C=>z1R (a K A B C) (tL4 b K A B C)
structure NmF4(a b:W.Frag->Addr->Addr->Addr->TS):Prop where
 e:∀K A B C,a K A B C=b K A B C
structure ClF4(a:W.Frag->Addr->Addr->Addr->TS)(bs:List (W.Frag->Addr->Addr->Addr->TS)):Prop where
 e:∀K A B C,a K A B C=tL4 bs K A B C
section
variable{a a' b b1 b2:W.Frag->Addr->Addr->Addr->TS}{bs aS cO:List (W.Frag->Addr->Addr->Addr->TS)}{c:W.Frag->Addr->Addr->Addr->TT}{wi:W.Frag->Addr->Addr->Addr->TI}{g:W.Frag->Addr->Addr->Addr->TG}
theorem zdp:ClF4 (λv v v v=>z3a) []:=⟨λv v v v=>rfl⟩
theorem zbY(h0:NmF4 a a')(h2:ClF4 b bs):ClF4 (λK A B C=>z1R (a K A B C) (b K A B C)) (a'::bs):=⟨λK A B C=>by show z1R (a K A B C) (b K A B C)=z1R (a' K A B C) (tL4 bs K A B C);rw[h0.e,h2.e]⟩
theorem zdL(h0:NmF4 a a'):ClF4 a [a']:=⟨λK A B C=>by rw[h0.e];rfl⟩
theorem zfu(h1:ClF4 b1 aS)(h2:ClF4 b2 cO)(h:NmF4 (λK A B C=>z6M (c K A B C) (tL4 aS K A B C) (tL4 cO K A B C)) a'):NmF4 (λK A B C=>z6M (c K A B C) (b1 K A B C) (b2 K A B C)) a':=⟨λK A B C=>by rw[h1.e,h2.e];exact h.e K A B C⟩
theorem z95{K:W.Frag}{B C:Addr}{σ:St}{t:W.Frag->Addr->Addr->Addr->TS}(e:ClF4 t bs)(h:tL4 bs K A B C D σ H):∀a,K=a->∀c,A=c->∀d,B=d->∀b,C=b->t a c d b D σ H:=by
 rintro _ rfl _ rfl _ rfl _ rfl;rw[e.e];exact h
end
end L2

namespace L2
open PySem PySem.Spec PyProof.Rows
variable{X:Cx}{tb:TS}{N ps:List Str}{sc:Scope}{x:Str}{e:Expr}{op:CmpOp}{r:R2}{sp:Sp}{body:List Stmt}
section
variable{a b:Expr}{ta tb:TE}{pos:Pos}
theorem ixT(ha:PE X a ta)(c:PE X b tb)(hs:z6E b:=by exact λv v=>rfl):PE X (.Subscript a b pos) (tOp (zeM X.K) ta tb):=yz zbP ha c hs
theorem ixL(ha:PE X a ta)(c:PE X b tb)(hs:z6E b:=by exact λv v=>rfl):PE X (.Subscript a b pos) (tOp (zfb X.K) ta tb):=yz z9Z ha c hs
theorem seT(i:Nat)(S:FnScope N ps sc){te:TE}{pos':Pos}(he:PE X e te)(c:(X.N=N)⁻¹)(hi:(X.N[i]? =some x)⁻¹)(a:Loc X.env.scope x:=by exact w0g rfl)(hs:(swapsWith e (some (.Name x pos')) pos.line X.env=pure false)⁻¹)(b:autoParam (X.fn x=true\/X.env.scope.names.lookup x=some .local) z_a._auto_1):
  PS X (.Assign [.Name x pos'] e pos) (zeR te (z24 i)):=yN (c ▸ S.nd) hi a he hs b
theorem gnM(i:Nat)(S:FnScope N ps sc)(c:(X.N=N)⁻¹)(hi:(X.N[i]? =some x)⁻¹)(a:Loc X.env.scope x:=by exact w0g rfl)(b:autoParam (X.fn x=true\/X.env.scope.names.lookup x=some .local) z_a._auto_1):PG X (.Name x pos) (z24 i):=z0D (c ▸ S.nd) hi a b
theorem cmE(d:OpR X (compareOp op) r)(ha:PE X a ta)(c:PE X b tb)(hm:behindInMarks op b=false:=by exact zcP _):PE X (.Compare a [op] [b] pos) (tOp r ta tb):=z4y d ha c hm
theorem cmT(d:OpR X (compareOp op) r)(ha:PE X a ta)(c:PE X b tb)(hm:behindInMarks op b=false:=by exact zcP _):PT X (.Compare a [op] [b] pos) (zeF (tOp r ta tb)):=z01 d ha c hm
variable{es:List Expr}{t:TA}{p:Pos}
theorem zS{k:Nat}(C:Kn X.prog X.w X.K X.mg X.base k x ps sp)(hr:Room k X.A)(ha:PA X (e::es) t)(c:(Gl X x)⁻¹)
  (b: ~~~((x == ("__debug__":Str))=false)) (he:(starEach (e::es) X.env=(false,eval e X.env)::starEach es X.env)⁻¹) (a:((backTo pos (starEach es X.env)).any (·.1)=false)⁻¹):
  PE X (.Call (.Name x p) (e::es) [] pos) (zcI sp [] E0 t):=z2h C hr c ha b he a
theorem leN(hm:X.mg "len"=none)(ha:PA X (e::es) t)(b:(Gl X "len")⁻¹)(he:(starEach (e::es) X.env=(false,eval e X.env)::starEach es X.env)⁻¹)(a:((backTo pos (starEach es X.env)).any (·.1)=false)⁻¹):
  PE X (.Call (.Name "len" p) (e::es) [] pos) (tCB (λxs H Q=>∃p ys,xs= [.ref p]/\(SqL X.K H p ys\/SqT X.K H p ys)/\Q (.int ys.length) H) t):=zF z38 b hm PySem.boot_len ha (by decide) (by decide) he a
theorem foR{tg iter:Expr}{wi:TI}{g:TG}{tb:TS}(hi:PI X tg iter wi)(b:PG X tg g)(a:PSs X body tb)(hp:PassesOwn (model X.prog X.w) X.A X.env X.xe:=by exact PassesOwn.never)(hc:(X.calm=true)⁻¹)
  (hs:autoParam (∀x,foldedSetIterable iter X.env x=pure x) z_b._auto_1):PS X (.For tg iter body [] pos) (zaE wi g tb):=zfc hp hc hi b a hs
theorem z4f{c:Expr}{tc:TT}{tb:TS}(hc:PT X c tc)(a:PSs X body tb)(hp:PassesOwn (model X.prog X.w) X.A X.env X.xe:=by exact PassesOwn.never):PS X (.While c body [] pos) (z1q tc tb):=zcw hp hc a
theorem apP{o:Expr}{to:TE}{apos ad:Pos}(c:PE X o to)(ha:PA X (e::es) t)(a:(attributeBase o "append" X.env (eval o X.env)=eval o X.env)⁻¹)
  (b:((backTo ad (starEach (e::es) X.env)).all (λx=> !x.1)&&(backToKw ad (keywordEach [] X.env)).all (λx=>x.1.isSome)
   && decide ((e::es).length+([]:List Keyword).length+(if([]:List Keyword).isEmpty then 0 else 1)<30))=true:=by rfl)
  (d:((apos.endLine == ad.line)=true)⁻¹) (hs:(starEach (e::es) X.env=(false,eval e X.env)::starEach es X.env)⁻¹) (hplain:((backTo ad (starEach es X.env)).any (·.1)=false)⁻¹):
  PE X (.Call (.Attribute o "append" apos) (e::es) [] ad) (tBM X.K "list" z9U to t):=kg wO PySem.F.slot_list_append PySem.F.type_list_append zaL c ha a b d hs hplain
end
section
variable{P:Program}{w:World}{K:W.Frag}{mg:Str->Option Value}{base:Heap}
def BodyOk(P:Program)(w:World)(K:W.Frag)(mg:Str->Option Value)(base:Heap)(N:List Str)(qual:Str)(st:Stmt)(k:Nat)(f:Addr)(vs:List V)(H:Hp)(Q:VK)(E:XK):Prop:=
 ∀(aa:Value) (A:Around) (outer:List Env) (s:Shared),Room k (A.deeper (envOfC qual (zi st) s.heap.objs.size f aa))->
  ∃t,PSs (z3k CX0 P w K mg base N qual (zi st) f aa A outer s H E).nox (jO st) t/\t {nx:=λv H'=>Q .non H',rt:=Q} (start N vs) H
theorem Fun.okB{qual:Str}{st:Stmt}{f:Addr}{fd:FuncData}{k:Nat}(F:Fun K x qual st f fd)(S:FnScope N ps (zi st))(len:∀vs H Q E,sp vs H Q E->vs.length=ps.length)
  (a:∀vs H Q E,sp vs H Q E->BodyOk P w K mg base N qual st k f vs H Q E):FnOk P w K mg base CX0 (k+1) f fd ps sp:=
 F.ok S len λaa A outer s H vs Q E hr h=>a vs H Q E h aa A outer s hr
end
section
variable{pos:Pos}
theorem v0(a:(X.N[0]? =some x)⁻¹)(b:autoParam (Vis X.env.scope x) z_c._auto_1)(hd: ~~~((x == ("__debug__":Str))=false))(c: ~~~((x == ("__classdict__":Str))=false)):PE X (.Name x pos) (z7C 0):=z2Z a b hd c
theorem v1(a:(X.N[1]? =some x)⁻¹)(b:autoParam (Vis X.env.scope x) z_c._auto_1)(hd: ~~~((x == ("__debug__":Str))=false))(c: ~~~((x == ("__classdict__":Str))=false)):PE X (.Name x pos) (z7C 1):=z2Z a b hd c
theorem v2(a:(X.N[2]? =some x)⁻¹)(b:autoParam (Vis X.env.scope x) z_c._auto_1)(hd: ~~~((x == ("__debug__":Str))=false))(c: ~~~((x == ("__classdict__":Str))=false)):PE X (.Name x pos) (z7C 2):=z2Z a b hd c
theorem v3(a:(X.N[3]? =some x)⁻¹)(b:autoParam (Vis X.env.scope x) z_c._auto_1)(hd: ~~~((x == ("__debug__":Str))=false))(c: ~~~((x == ("__classdict__":Str))=false)):PE X (.Name x pos) (z7C 3):=z2Z a b hd c
theorem v4(a:(X.N[4]? =some x)⁻¹)(b:autoParam (Vis X.env.scope x) z_c._auto_1)(hd: ~~~((x == ("__debug__":Str))=false))(c: ~~~((x == ("__classdict__":Str))=false)):PE X (.Name x pos) (z7C 4):=z2Z a b hd c
theorem v5(a:(X.N[5]? =some x)⁻¹)(b:autoParam (Vis X.env.scope x) z_c._auto_1)(hd: ~~~((x == ("__debug__":Str))=false))(c: ~~~((x == ("__classdict__":Str))=false)):PE X (.Name x pos) (z7C 5):=z2Z a b hd c
end
theorem yG{n:Nat}(h:Nat.ble n 1000000=true):n<=sizeLine:=jb (Nat.le_of_ble_eq_true h)
end L2

namespace Cn
open PySem L2
inductive Side where
 | nm (s:Str)|nu (i:Int)
noncomputable def Side.v:Side->V
 | .nm s=> .str s
 | .nu i=> .int i
def Side.ok(hs:List Str):Side->Prop
 | .nm s=>s∈hs
 | .nu _=>True
noncomputable def Side.cols:Side->List Str
 | .nm s=> [s]
 | .nu _=> []
set_option genSizeOf true in
inductive Cond where
 | less (a b:Side)|same (a b:Side)|no (c:Cond)|an (c d:Cond)|or (c d:Cond)
namespace Cond
noncomputable def size:Cond->Nat
 | .less _ _=>1
 | .same _ _=>1
 | .no c=>c.size+1
 | .an c d=>c.size+d.size+1
 | .or c d=>c.size+d.size+1
noncomputable def leaf:Cond->Bool
 | .less _ _=>true
 | .same _ _=>true
 | _=>false
def ok(hs:List Str):Cond->Prop
 | .less a b=>a.ok hs/\b.ok hs
 | .same a b=>a.ok hs/\b.ok hs
 | .no c=>c.ok hs
 | .an c d=>c.ok hs/\d.ok hs
 | .or c d=>c.ok hs/\d.ok hs
noncomputable def cols:Cond->List Str
 | .less a b=>a.cols++b.cols
 | .same a b=>a.cols++b.cols
 | .no c=>c.cols
 | .an c d=>c.cols++d.cols
 | .or c d=>c.cols++d.cols
theorem size_pos(c:Cond):1<=c.size:=by
 cases c<;>simp only[size]<;>lia
theorem z0v(a:Side):a.cols.length<=1:=by
 cases a<;>simp[Side.cols]
theorem cols_le:∀c:Cond,c.cols.length<=2*c.size
 | .less a b=>by
  have h1:=z0v a;have h2:=z0v b;simp only[cols,size,wm];lia
 | .same a b=>by
  have h1:=z0v a;have h2:=z0v b;simp only[cols,size,wm];lia
 | .no c=>by
  have:=cols_le c;simp only[cols,size];lia
 | .an c d=>by
  have h1:=cols_le c;have h2:=cols_le d;simp only[cols,size,wm];lia
 | .or c d=>by
  have h1:=cols_le c;have h2:=cols_le d;simp only[cols,size,wm];lia
end Cond
noncomputable def num(hs:List Str)(rs:List Int):Side->Int
 | .nm s=>rs.getD (hs.idxOf s) 0
 | .nu i=>i
noncomputable def ev(hs:List Str)(rs:List Int):Cond->Bool
 | .less a b=>decide (num hs rs a<num hs rs b)
 | .same a b=>decide (num hs rs a=num hs rs b)
 | .no c=> !ev hs rs c
 | .an c d=>ev hs rs c&&ev hs rs d
 | .or c d=>ev hs rs c||ev hs rs d
def zE(H:Hp):Cond->V->Prop
 | .less a b,v=>∃p,v= .ref p/\H p=some (.tup [.str "less",a.v,b.v])
 | .same a b,v=>∃p,v= .ref p/\H p=some (.tup [.str "same",a.v,b.v])
 | .no c,v=>∃p x,v= .ref p/\H p=some (.tup [.str "not",x])/\zE H c x
 | .an c d,v=>∃p x y,v= .ref p/\H p=some (.tup [.str "and",x,y])/\zE H c x/\zE H d y
 | .or c d,v=>∃p x y,v= .ref p/\H p=some (.tup [.str "or",x,y])/\zE H c x/\zE H d y
variable{H:Hp}
theorem zE.mono{H':Hp}(t:∀b xs,H b=some (.tup xs)->H' b=some (.tup xs)):∀{c:Cond} {v:V},zE H c v->zE H' c v
 | .less _ _,_,h=>by
  obtain⟨p,rfl,h⟩:=h;exact(p,rfl,t _ _ h)
 | .same _ _,_,h=>by
  obtain⟨p,rfl,h⟩:=h;exact(p,rfl,t _ _ h)
 | .no _,_,h=>by
  obtain⟨p,x,rfl,h,h1⟩:=h;exact(p,x,rfl,t _ _ h,h1.mono t)
 | .an _ _,_,h=>by
  obtain⟨p,x,y,rfl,h,h1,h2⟩:=h;exact(p,x,y,rfl,t _ _ h,h1.mono t,h2.mono t)
 | .or _ _,_,h=>by
  obtain⟨p,x,y,rfl,h,h1,h2⟩:=h;exact(p,x,y,rfl,t _ _ h,h1.mono t,h2.mono t)
variable{c:Cond}
theorem zE.same{H':Hp}{v:V}(e:zw H H')(h:zE H c v):zE H' c v:=h.mono λb xs q=>e b _ q
theorem zE.ref{v:V}(h:zE H c v):∃p xs,v= .ref p/\H p=some (.tup xs):=by
 cases c with
 | less a b=>obtain⟨p,rfl,h⟩:=h;exact(p,_,rfl,h)
 | same a b=>obtain⟨p,rfl,h⟩:=h;exact(p,_,rfl,h)
 | no c=>obtain⟨p,x,rfl,h,_⟩:=h;exact(p,_,rfl,h)
 | an c d=>obtain⟨p,x,y,rfl,h,_⟩:=h;exact(p,_,rfl,h)
 | or c d=>obtain⟨p,x,y,rfl,h,_⟩:=h;exact(p,_,rfl,h)
theorem zE.head{v:V}(h:zE H c v):∃(p:Addr) (x:Str) (xs:List V),v= .ref p/\H p=some (.tup (.str x::xs))/\inV (.str x) [.str "less",.str "same"]=c.leaf:=by
 cases c with
 | less a b=>obtain⟨p,rfl,h⟩:=h;exact(p,_,_,rfl,h,(by show inV _ _=_;first|exact(by decide:inV (.str "less") [.str "less",.str "same"]=true)|exact(by decide:inV (.str "same") [.str "less",.str "same"]=true)|exact(by decide:inV (.str "not") [.str "less",.str "same"]=false)|exact(by decide:inV (.str "and") [.str "less",.str "same"]=false)|exact(by decide:inV (.str "or") [.str "less",.str "same"]=false)))
 | same a b=>obtain⟨p,rfl,h⟩:=h;exact(p,_,_,rfl,h,(by show inV _ _=_;first|exact(by decide:inV (.str "less") [.str "less",.str "same"]=true)|exact(by decide:inV (.str "same") [.str "less",.str "same"]=true)|exact(by decide:inV (.str "not") [.str "less",.str "same"]=false)|exact(by decide:inV (.str "and") [.str "less",.str "same"]=false)|exact(by decide:inV (.str "or") [.str "less",.str "same"]=false)))
 | no c=>obtain⟨p,x,rfl,h,_⟩:=h;exact(p,_,_,rfl,h,(by show inV _ _=_;first|exact(by decide:inV (.str "less") [.str "less",.str "same"]=true)|exact(by decide:inV (.str "same") [.str "less",.str "same"]=true)|exact(by decide:inV (.str "not") [.str "less",.str "same"]=false)|exact(by decide:inV (.str "and") [.str "less",.str "same"]=false)|exact(by decide:inV (.str "or") [.str "less",.str "same"]=false)))
 | an c d=>obtain⟨p,x,y,rfl,h,_⟩:=h;exact(p,_,_,rfl,h,(by show inV _ _=_;first|exact(by decide:inV (.str "less") [.str "less",.str "same"]=true)|exact(by decide:inV (.str "same") [.str "less",.str "same"]=true)|exact(by decide:inV (.str "not") [.str "less",.str "same"]=false)|exact(by decide:inV (.str "and") [.str "less",.str "same"]=false)|exact(by decide:inV (.str "or") [.str "less",.str "same"]=false)))
 | or c d=>obtain⟨p,x,y,rfl,h,_⟩:=h;exact(p,_,_,rfl,h,(by show inV _ _=_;first|exact(by decide:inV (.str "less") [.str "less",.str "same"]=true)|exact(by decide:inV (.str "same") [.str "less",.str "same"]=true)|exact(by decide:inV (.str "not") [.str "less",.str "same"]=false)|exact(by decide:inV (.str "and") [.str "less",.str "same"]=false)|exact(by decide:inV (.str "or") [.str "less",.str "same"]=false)))
theorem z0a{l:Addr}{o:HO}(hl:H l=none):∀b xs,H b=some (.tup xs)->(upd H l o) b=some (.tup xs):=λb xs h=>by
 rw[zj (zq h hl)];exact h
noncomputable def apf(hs:List Str)(rs:List Int):Cond->Bool->Bool
 | .no _,b=> !b
 | .an _ d,b=>b&&ev hs rs d
 | .or _ d,b=>b||ev hs rs d
 | _,b=>b
noncomputable def wgt:Cond->Nat
 | .an _ d=>d.size+1
 | .or _ d=>d.size+1
 | _=>1
theorem zE.down{p:Addr}{x:V}{xs:List V}(hs:List Str)(rs:List Int)(h:zE H c (.ref p))(hp:H p=some (.tup (x::xs)))(lf:c.leaf=false)(ok:c.ok hs):
  ∃(y:V) (r:List V) (d:Cond),xs=y::r/\zE H d y/\d.ok hs/\d.size+wgt c=c.size/\apf hs rs c (ev hs rs d)=ev hs rs c:=by
 cases c with
 | less a b=>cases lf
 | same a b=>cases lf
 | no c=>
  obtain⟨p',y,e,h,h1⟩:=h;cases e;rw[hp]at h;cases h;exact(_,_,c,rfl,h1,ok,rfl,rfl)
 | an c d=>
  obtain⟨p',y,z,e,h,h1,h2⟩:=h;cases e;rw[hp]at h;cases h;exact(_,_,c,rfl,h1,ok.1,by simp only[wgt,Cond.size];lia,rfl)
 | or c d=>
  obtain⟨p',y,z,e,h,h1,h2⟩:=h;cases e;rw[hp]at h;cases h;exact(_,_,c,rfl,h1,ok.1,by simp only[wgt,Cond.size];lia,rfl)
noncomputable def unw(hs:List Str)(rs:List Int)(fs:List (V×Cond))(b:Bool):Bool:=fs.foldr (λf b=>apf hs rs f.2 b) b
noncomputable def wt(fs:List (V×Cond)):Nat:=(fs.map λf=>wgt f.2).sum
theorem z7e(hs:List Str)(rs:List Int)(fs:List (V×Cond))(f:V×Cond)(b:Bool):unw hs rs (fs++[f]) b=unw hs rs fs (apf hs rs f.2 b):=by simp[unw]
theorem z9l(fs:List (V×Cond))(f:V×Cond):wt (fs++[f])=wt fs+wgt f.2:=by simp[wt]
theorem zbi:∀fs:List (V×Cond),fs.length<=wt fs
 | []=>wA _
 | f::r=>by
  have h1:=zbi r;have h2:1<=wgt f.2:=by cases f.2<;>simp only[wgt]<;>lia
  have a:wt (f::r)=wgt f.2+wt r:=by simp[wt]
  rw[a,wP]
  lia
end Cn

namespace Rw
open PySem L2
noncomputable abbrev refs(rs:List (Addr×List Int)):List V:=rs.map λr=>V.ref r.1
def RowsAt(H:Hp)(p:Addr)(rs:List (Addr×List Int)):Prop:=H p=some (.lst (refs rs))/\∀r∈rs,r.1≠p/\H r.1=some (.lst (r.2.map V.int))
variable{H:Hp}{p:Addr}{rs:List (Addr×List Int)}
theorem RowsAt.same{H':Hp}(h:RowsAt H p rs)(e:zw H H'):RowsAt H' p rs:=(e _ _ h.1,λr m=>((h.2 r m).1,e _ _ (h.2 r m).2))
def RowsAt.kp{H':Hp}{l:Addr}(h:RowsAt H p rs)(e:Kp l H H')(np:p≠l)(a:∀r∈rs,r.1≠l):RowsAt H' p rs:=(e _ _ np h.1,λr m=>((h.2 r m).1,e _ _ (a r m) (h.2 r m).2))
theorem yE(h:H p=some (.lst [])):RowsAt H p []:=(h,λv z=>by cases z)
theorem RowsAt.push{q:Addr}{x:List Int}(h:RowsAt H p rs)(a:q≠p)(hq:H q=some (.lst (x.map V.int))):
  RowsAt (upd H p (.lst ((refs rs)++[V.ref q]))) p (rs++[(q,x)]):=by
 refine(by rw[zh];simp[refs],λr m=>?_);rcases wE.mp m with m|m
 .exact((h.2 r m).1,by rw[zj (h.2 r m).1];exact(h.2 r m).2)
 .rw [ww.mp m];exact(a,by rw[zj a];exact hq)
theorem RowsAt.len:(refs rs).length=rs.length:=w9 _
variable{i:Nat}
theorem yb(h:i<rs.length):(refs rs)[i]? =some (V.ref rs[i].1):=by
 rw[wM,we h]
 rfl
theorem int_at{xs:List Int}(h:i<xs.length):(xs.map V.int)[i]? =some (.int (xs.getD i 0)):=by
 rw[wM,we h,wn,we h]
 rfl
theorem z6J(h:i<rs.length):atI (refs rs) (0+(i:Int))=some (V.ref rs[i].1):=by
 rw[w0q];exact zR (yb h)
end Rw

namespace L2
open PySem PySem.Spec PyProof.Rows
variable{X:Cx}{H:Hp}{kvs:List (Key×V)}
section
variable{pins:List (Addr×Obj)}{σ:St}{s:Shared}{a:Addr}{A:Around}{E:Value->Shared->Prop}
theorem zd4{k:Key}{d:V}{u r:Value}{Q:Value->Shared->Prop}(I:Inv X pins σ H s)(e:H a=some (.dK kvs))(hl:kvs.length<sizeLine)(i:RelV (kV k) u)(h:RelV d r)
  (h1:∀v b s',jX kvs k=some v->Inv X pins σ H s'->RelV v b->Q b s') (h2:∀s',jX kvs k=none->Inv X pins σ (upd H a (.dK (putK kvs k d))) s'->Q r s'):
  wpAny (model X.prog X.w) A (call (.builtin "dict.setdefault") [.ref a,u,r]) Q E s:=by
 obtain⟨z,hd,vs,rel,c⟩:=zbl I.hok e;have hz:vs.length<=sizeLine:=by rw[<-rel.length];exact z
 refine call_meetsIn PySem.F.slot_dict_setdefault c.typeIs PySem.F.entry_dict_setdefault (PySem.F.args_dict_setdefault_3 _ _ _) (kt_meets_setdefault (jw X.prog X.w) a (z7g i) hd r) (vs,c,hz,λv' j=>?_,λhn h' f hs=>?_)
 .have q:=rel.val k;rw[j]at q;cases l:jX kvs k with
  | none=>rw[l]at q;exact q.elim
  | some v=>rw[l]at q;exact h1 v v' _ l (I.tok _) q
 .have q:=rel.val k;rw[hn]at q;have l:jX kvs k=none:=by
   cases l:jX kvs k with
   | none=>rfl
   | some v=>rw[l]at q;exact q.elim
  refine h2 _ l ?_;have n:(putK kvs k d).length<=sizeLine:=by have:=z0Z kvs k d;lia
  have he:∃q,h'.get? a=some q:=let ⟨q,_,_,hq,_⟩:=f;(q,hq)
  exact z6v I (by rw[e];exact w0e) hs he (zcx n hd (rel.put k h) f)
end
def zfX(td ty tx:TE):TE:=λσ H Q=>td σ H λx H1=>∃a,x= .ref a/\IsD H1 a/\ty σ H1 λy H2=>tx σ H2 λz b=>∃kvs k,b a=some (.dK kvs)/\y=kV k/\kvs.length<sizeLine/\
 (∀v,jX kvs k=some v->Q v b)/\(jX kvs k=none->Q z (upd b a (.dK (putK kvs k z))))
section
variable{o e f:Expr}{td ty tx:TE}{apos ad:Pos}
theorem z8w(r:PE X o td)(he:PE X e ty)(D:PE X f tx)(m:M2 X o "setdefault" apos e f ad):PE X (.Call (.Attribute o "setdefault" apos) [e,f] [] ad) (zfX td ty tx):=by
 intro pins s σ H Q I h;refine wpAny_Call_method m.base m.few m.line PySem.F.plainAttrs_dict PySem.F.slot_dict_setdefault PySem.F.type_dict_setdefault (thn (r pins s σ H _ I h) ?_);rintro u s1 ⟨x,H1,i,j,a,ex,d,q1⟩;subst ex;obtain rfl:u=Value.ref a:=j;obtain⟨q,E,_⟩:=zbf i d;refine(q,E,?_);rw[m.trees];refine w18 rfl (Calls.evalArgs_plain (Qv (thn (he pins s1 σ H1 _ i q1) λO s2 ⟨y,H2,G,w,L⟩=>
  Qv (thn (D pins s2 σ H2 _ G L) λM N ⟨z,n,p,c,kvs,k,K,t,hl,C,J⟩=>w0v ?_))))
 subst t;exact zd4 p K hl w c (λv P A l b B=>(v,n,b,B,C v l)) λA l b=>(z,_,b,c,J l)
end
noncomputable def Itd(d:Addr)(o:Obj)(kvs:List (Key×V)):It:=
 (λi H=>H d=some (.frz o (.dK kvs))/\i<kvs.length,λi H x H'=>H'=H/\∃p,kvs[i]? =some p/\x=kV p.1,λi H=>H d=some (.frz o (.dK kvs))/\kvs.length<=i)
variable{P:Program}{w:World}
theorem zc3{k:Key}{u:Value}(h:(jw P w).is k u=true):RelV (kV k) u:=by
 rcases jx (show z47 k u=true from h)with⟨i,t,rfl,rfl⟩|⟨y,t,rfl,rfl⟩
 .exact(t,rfl)
 .exact(t,rfl)
variable{d:Addr}{o:Obj}{es:Array DictEntry}{ep:Nat}
theorem zcF{h:Heap}(ok:HOk P w H h)(e:H d=some (.frz o (.dK kvs)))(j:o.data= .dict es ep):
  ∃vs,KV kvs vs/\h.DictAt (jw P w) d vs ep:=by
 obtain⟨i,z,p,vs,rel,f⟩:=ok d _ e;obtain⟨l,a⟩:=f.dictAt;obtain⟨o',n,c,q,b,r⟩:=id a
 rw[i]at c;cases c;rw[j]at b
 cases b
 exact(vs,rel,a)
variable{tg:Expr}
theorem zag{K:W.Frag}(d it:Addr)(C:o.data= .dict es ep):
  Turn P w K tg (Itd d o kvs) [it] it (λi h=>h.IsKeyIter it d i kvs.length ep) where
 mem:=by simp
 obj:=λi h st b a=>by
  have e:b=it:=by simpa using a
  subst e;obtain⟨o,e,c,d⟩:=st;exact(o,e,λv z=>by rw[d]at z;cases z)
 keep:=λi h h' st k=>st.at λo e=>k it (by simp) o e
 item:=by
  intro X x A l hc i pins s σ H E I f st y;subst x A l;obtain⟨n,hi⟩:=y;obtain⟨vs,rel,u⟩:=zcF I.hok n C;have hl:=rel.length;obtain⟨f0,f1,f2,t,j,r⟩:=f it (by simp);obtain⟨p,hp⟩:∃p,vs[i]? =some p:=(vs[i]'(by lia),we (by lia))
  obtain⟨q,hq⟩:∃q,kvs[i]? =some q:=(kvs[i],we hi)
  have M:q.1=p.1:=by
   have D:(kvs.map (·.1))[i]? =some q.1:=by rw[wM,hq];rfl
   rw[KV.keys rel,wM,hp]at D;exact(Option.some.inj D).symm
  rw[hl]at st;refine wpAny_pyNext_dict_item st u (k:=p.1) (v:=p.2) hp λkey h' J B L=>?_
  have G:Inv X pins σ H {s with heap:=h'}:=I.turned (t':=s.toks) (λb o a e=>(L.2 b a).trans e) f0 f1 t j r;obtain⟨o',e,c,N⟩:=id B;refine(key,rfl,z85 (s:={s with heap:=h'}) e c N (by decide) (kV q.1,H,G,?_,(rfl,q,hq,rfl),by rw[hl];exact B,λb a=>(f b a).1));rw[M];exact zc3 J
 done:=by
  intro X x A l hc i pins s σ H E I f st y;subst x A l;obtain⟨n,hi⟩:=y;obtain⟨vs,rel,u⟩:=zcF I.hok n C;have hl:=rel.length;obtain⟨f0,f1,f2,t,j,r⟩:=f it (by simp);rw[hl]at st;exact wpAny_pyNext_dict_end (I.ok.hd hc) st u (w1i (by lia)) λh' F=>(rfl,I.turned (t':=s.toks) (λb o a e=>F b o a e) f0 f1 t j r)
 self:=λm m m m m st h=>wpAny_pyIter_keyiter st h
def zgF(tl:TE):TI:=λσ H R=>tl σ H λx H1=>∃d kvs,x= .ref d/\H1 d=some (.dK kvs)/\∀o,R (Itd d o kvs) (upd H1 d (.frz o (.dK kvs)))
theorem zdZ{l:Expr}{tl:TE}(hl:PE X l tl):PI X tg l (zgF tl):=by
 intro pins s σ H R I h;refine thn (hl pins s σ H _ I h) ?_;rintro v s1 ⟨x,H1,f,r1,q1⟩;obtain⟨d,kvs,e,hq,q⟩:=q1;subst e;cases r1;obtain⟨z,hd,vs,rel,j⟩:=zbl f.hok hq;obtain⟨ep,i⟩:=j.dictAt;obtain⟨o,es,c,r,n,_⟩:=id i
 refine wpAny_pyIter_dict hd i ?_;have a:Inv X pins σ (upd H1 d (.frz o (.dK kvs))) {s1 with heap:=s1.heap,toks:=s1.toks}:=f.write (x:=d) (e:=d) (by rw[hq];exact w0e) (.inl rfl) (λb u t q=>q) (o,c) (c,z,hd,vs,rel,j);rw[<-rel.length];refine(s1.heap.objs.size,[s1.heap.objs.size],_,_,upd H1 d (.frz o (.dK kvs)),rfl,a.kept (t':=s1.toks) λb o e=>wu _ e,zag d _ n,(_,qh _ rfl,rfl,rfl),λb p=>?_,q o);have e:b=s1.heap.objs.size:=by simpa using p
 subst e;exact a.fpOk (wA _) (a.hok.fresh (wA _))
theorem z8S{σ:St}{ix:List Nat}{te:TE}{Q:List V->Hp->Prop}(a:Nat->List V->Hp->Prop)(h0:a 0 [] H)
  (hl:∀i ys H,i<=kvs.length->a i ys H->H d=some (.frz o (.dK kvs))/\ys.length<sizeLine)
  (hs:∀(i:Nat) p ys H,kvs[i]? =some p->a i ys H->te (sub σ ix (some (kV p.1))) H λy b=>a (i+1) (ys++[y]) b) (hd:∀ys H,a kvs.length ys H->Q ys H):z0n (Itd d o kvs) σ ix z7N te Q H:=by
 refine(λi m ys H=>m=kvs.length-i/\i<=kvs.length/\a i ys H,(_,rfl,qU _,h0),?_);rintro i m ys H ⟨rfl,hi,p⟩;obtain⟨q,hz⟩:=hl i ys H hi p;refine(hz,?_);by_cases af:i<kvs.length
 .refine .inr ((q,af),λy b=>a (i+1) (ys++[y]) b,λH2=>False,λy b z=>(kvs.length-(i+1),by lia,rfl,af,z),λH2 z=>z.elim,λx H' y=>?_);obtain⟨e,y,c,f⟩:=y;subst e f;exact z8W (B:=False) (hs i y ys _ c p)
 .have e:i=kvs.length:=by lia
  subst e;exact .inl ((q,wA _),hd ys H p)
def zeS(K:W.Frag):R2:=λx y H Q=>∃a b xs,x= .ref a/\y= .ref b/\SqL K H a xs/\SqL K H b []/\Q (.bl (!xs.isEmpty)) H
theorem z4T(p:X.A.units+1<cLine):OpR X (compareOp .NotEq) (zeS X.K):=by
 intro pins s σ H x y v u Q I i n h;have d:X.A.units<cLine:=by lia
 obtain⟨a,b,xs,rfl,rfl,ha,o,q⟩:=h;cases i;cases n;obtain⟨its,r,pl,hz⟩:=I.list ha;obtain⟨l,r2,c,_⟩:=I.list o;have f:l= []:=r2.zero;subst f;cases r with
 | nil=>exact SeqAt.RcNeAt.lists (e:=λt=>true) pl.isList c.isList rfl d (λj h1 t=>absurd h1 (by simp)) _ _ _ _ (.bl false,H,I,by simp[RelV],q)
 | cons r1 r2=>exact SeqAt.RcNeAt.lists_lengths pl.isList c.isList (by simp) d _ _ _ _ (.bl true,H,I,rfl,q)
end L2

namespace L2
open PySem PySem.Spec PyProof.Rows PySem.W
def kOk(n:Nat)(k:Nat->Int){α:Type}(Q:α->Prop):KasT α->Prop
 | .ret a=>Q a
 | .ask i j f=>i<n/\j<n/\kOk n k Q (f (decide (k i<k j)))
def z1l{n:Nat}{k:Nat->Int}{α β:Type}{Q:β->Prop}{f:α->KasT β}:∀{t:KasT α},kOk n k (λa=>kOk n k Q (f a)) t->kOk n k Q (t.bind f)
 | .ret _,h=>h
 | .ask _ _ _,h=>(h.1,h.2.1,z1l h.2.2)
def jY{n:Nat}{k:Nat->Int}{α:Type}{Q b:α->Prop}(hq:∀a,Q a->b a):∀{t:KasT α},kOk n k Q t->kOk n k b t
 | .ret _,h=>hq _ h
 | .ask _ _ _,h=>(h.1,h.2.1,jY hq h.2.2)
theorem z90{n:Nat}{k:Nat->Int}{cmp:Nat->Nat->(Bool->Shared->Prop)->Shared->Prop}{s:Shared}(hc:∀i j C,i<n->j<n->C (decide (k i<k j)) s->cmp i j C s){α:Type}{Q:α->Shared->Prop}:
  ∀{t:KasT α},kOk n k (λa=>Q a s) t->t.kasWp cmp Q s
 | .ret _,h=>h
 | .ask _ _ _,h=>hc _ _ _ h.1 h.2.1 (z90 hc h.2.2)
variable{n i j:Nat}
theorem z3G{k:Nat->Int}{α:Type}{Q:α->Prop}{a b:KasT α}(hi:i<n)(d:j<n)(h1:k i<k j->kOk n k Q a)(h2:¬k i<k j->kOk n k Q b):
  kOk n k Q (.ask i j λc=>if c=true then a else b):=by
 refine(hi,d,?_);by_cases c:k i<k j
 .show kOk n k Q (if decide (k i<k j)=true then a else b)
  rw[qd (by simpa using c)];exact h1 c
 .show kOk n k Q (if decide (k i<k j)=true then a else b)
  rw[wW (by simpa using c)];exact h2 c
def Rk(k:Nat->Int)(x y:Nat):Prop:=k x<k y\/(k x=k y/\x<y)
theorem Rk.trans{k:Nat->Int}{x y z:Nat}(h:Rk k x y)(h':Rk k y z):Rk k x z:=by unfold Rk at *;lia
noncomputable def at'(p:Array Nat)(i:Nat):Nat:=(p[i]?).getD 0
theorem getD_at(p:Array Nat)(i:Nat):p.getD i 0=at' p i:=by
 unfold at';simp[Array.getD_eq_getD_getElem?]
structure Ar(n m:Nat)(p:Array Nat):Prop where
 sz:p.size=n
 mn:m<=n
 id:∀i,m<=i->i<n->at' p i=i
 lo:∀i,i<m->at' p i<m
 pm:p.Perm (List.range n).toArray
variable{p:Array Nat}
theorem Ar.lt{m:Nat}(h:Ar n m p)(hi:i<n):at' p i<n:=by
 by_cases e:i<m
 .exact wT (h.lo i e) h.mn
 .rw [h.id i (by lia) hi];exact hi
theorem Ar.up{m c:Nat}(h:Ar n m p)(h1:m<=c)(h2:c<=n):Ar n c p:=by
 refine(h.sz,h2,λi a b=>h.id i (by lia) b,λi a=>?_,h.pm);by_cases e:i<m
 .have:=h.lo i e;lia
 .rw [h.id i (by lia) (by lia)];exact a
def Up(k:Nat->Int)(m:Nat)(p:Array Nat):Prop:=∀i j,i<j->j<m->Rk k (at' p i) (at' p j)
def Dn(k:Nat->Int)(m:Nat)(p:Array Nat):Prop:=∀i j,i<j->j<m->Rk k (at' p j) (at' p i)
theorem z0k(a:j<=p.size)(x:Nat):at' (kas_rev p i j) x=if i<=x/\x<j then at' p (i+j-1-x)else at' p x:=by
 unfold at' kas_rev;rw[getElem?_mirror_all a];split<;>rfl
theorem Ar.rev{m:Nat}(h:Ar n m p)(c:j<=m):Ar n m (kas_rev p i j):=by
 have hs:j<=p.size:=by rw[h.sz];exact wY c h.mn
 refine(by show(mirror _ _ _ _).size=n;rw[mirror_size,h.sz],h.mn,λx a b=>?_,λx a=>?_,(mirror_perm _ _ _ _).trans h.pm)
 .rw [z0k hs,wW (by lia),h.id x a b]
 .rw [z0k hs];split
  .exact h.lo _ (by lia)
  .exact h.lo _ a
theorem Dn.rev{k:Nat->Int}{m:Nat}(A:Ar n m p)(h:Dn k m p):Up k m (kas_rev p 0 m):=by
 have hs:m<=p.size:=by rw[A.sz];exact A.mn
 intro i j b a;rw[z0k hs,z0k hs,qd (by lia),qd (by lia)];exact h _ _ (by lia) (by lia)
theorem zbw{n:Nat}{k:Nat->Int}{p:Array Nat}:∀(f m:Nat),1<=m->m+f=n->Ar n m p->Up k m p->
  kOk n k (λb=>m<=b/\b<=n/\Ar n b p/\Up k b p) (kas_asc p f m)
 | 0,m,_,l,A,U=>(wA _,by lia,A,U)
 | f+1,m,h1,l,A,U=>by
  show kOk n k _ (KasT.ask _ _ _)
  rw[getD_at,getD_at];have d:=A.id m (wA _) (by lia);have r:=A.lo (m-1) (by lia);refine z3G (by rw[d];lia) (by lia) (λc=>?_) λc=>?_
  .skip
   exact(wA _,by lia,A,U)
  .skip
   refine jY (λa h=>(by lia,h.2)) (zbw f (m+1) (by lia) (by lia) (A.up (by lia) (by lia)) ?_);have last:Rk k (at' p (m-1)) (at' p m):=by unfold Rk;lia
   intro i j o q;by_cases e:j<m
   .exact U i j o e
   .obtain rfl:j=m:=by lia
    by_cases e2:i=j-1
    .rw [e2];exact last
    .exact(U i (j-1) (by lia) (by lia)).trans last
structure Fal(k:Nat->Int)(m q:Nat)(p:Array Nat):Prop where
 qm:q+1<=m
 fr:∀i j,i<j->j<m-(q+1)->Rk k (at' p j) (at' p i)
 st:∀i j,i<m-(q+1)->m-(q+1)<=j->j<m->k (at' p j)<k (at' p i)
 eq:∀i,m-(q+1)<=i->i<m->k (at' p i)=k (at' p (m-1))
 or:∀i j,i<j->j<m->m-(q+1)<=i->at' p i<at' p j
theorem Fal.dn{k:Nat->Int}{m q:Nat}(A:Ar n m p)(h:Fal k m q p):Dn k m (kas_rev p (m-(q+1)) m)/\∀x,x<m->k (at' p (m-1))<=k (at' (kas_rev p (m-(q+1)) m) x):=by
 have hs:m<=p.size:=by rw[A.sz];exact A.mn
 have hq:=h.qm;have f:∀x,x<m->k (at' p (m-1))<=k (at' p x):=λx d=>by
  by_cases e:x<m-(q+1)
  .have:=h.st x (m-1) e (by lia) (by lia);lia
  .rw [h.eq x (by lia) d];exact Int.le_refl _
 refine(λi j o l=>?_,λx d=>?_)
 .rw [z0k hs,z0k hs];by_cases ei:m-(q+1)<=i
  .rw [qd (by lia),qd (by lia)];have a:=h.eq (m-(q+1)+m-1-i) (by lia) (by lia);have b:=h.eq (m-(q+1)+m-1-j) (by lia) (by lia);have c:=h.or (m-(q+1)+m-1-j) (m-(q+1)+m-1-i) (by lia) (by lia) (by lia);unfold Rk;lia
  .rw [wW (show¬(m-(q+1)<=i/\i<m) by lia)];split
   .exact w0g (h.st _ _ (by lia) (by lia) (by lia))
   .exact h.fr _ _ (by lia) (by lia)
 .rw [z0k hs];split
  .exact f _ (by lia)
  .exact f _ d
theorem Fal.dn0{k:Nat->Int}{m:Nat}(h:Fal k m 0 p):Dn k m p/\∀x,x<m->k (at' p (m-1))<=k (at' p x):=by
 have hq:=h.qm;refine(λi j b a=>?_,λx c=>?_)
 .by_cases e:j<m-1
  .exact h.fr i j b e
  .exact w0g (h.st i j (by lia) (by lia) a)
 .by_cases e:x<m-1
  .have:=h.st x (m-1) e (by lia) (by lia);lia
  .obtain rfl:x=m-1:=by lia
   exact Int.le_refl _
theorem Fal.step{k:Nat->Int}{m:Nat}(hm:m<n)(h:Dn k m p){y:Int}(f:∀x,x<m->y<=k (at' p x))(hl:k (at' p m)<y):Fal k (m+1) 0 p:=by
 refine(by lia,λi j l d=>h i j l (by lia),λi j hi d e=>?_,λi a b=>?_,λi j a b c=>by lia)
 .obtain rfl:j=m:=by lia
  have:=f i (by lia)
  lia
 .obtain rfl:i=m:=by lia
  simp
theorem z4w{n:Nat}{k:Nat->Int}:∀(f:Nat) (p:Array Nat) (m q:Nat),m+f=n->Ar n m p->Fal k m q p->
  kOk n k (λr=>m<=r.2.1/\r.2.1<=n/\Ar n r.2.1 r.1/\Fal k r.2.1 r.2.2 r.1) (kas_desc f p m q)
 | 0,p,m,q,x,A,F=>(wA _,by show m<=n;lia,A,F)
 | f+1,p,m,q,x,A,F=>by
  show kOk n k _ (KasT.ask _ _ _)
  rw[getD_at,getD_at];have hq:=F.qm;have l:=A.id m (wA _) (by lia);have y:=A.lo (m-1) (by lia);refine z3G (by rw[l];lia) (by lia) (λc=>?_) λc=>?_
  .skip
   have hs:m<=p.size:=by rw[A.sz];lia
   by_cases q0:q > 0
   .rw [qd q0];have w:Ar n m (kas_rev p (m-(q+1)) m):=A.rev (wA _);have u:at' (kas_rev p (m-(q+1)) m) m=at' p m:=by rw[z0k hs,wW (by lia)]
    exact jY (λa h=>(by lia,h.2)) (z4w f _ (m+1) 0 (by lia) (w.up (by lia) (by lia)) (Fal.step (n:=n) (by lia) (F.dn A).1 (F.dn A).2 (by rw[u];exact c)))
   .rw [wW q0];obtain rfl:q=0:=by lia
    exact jY (λa h=>(by lia,h.2)) (z4w f _ (m+1) 0 (by lia) (A.up (by lia) (by lia)) (Fal.step (n:=n) (by lia) F.dn0.1 F.dn0.2 c))
  .refine z3G (by lia) (by rw[l];lia) (λd=>?_) λd=>?_
   .exact(wA _,by show m<=n;lia,A,F)
   .have t:k (at' p m)=k (at' p (m-1)):=by lia
    refine jY (λa h=>(by lia,h.2)) (z4w f _ (m+1) (q+1) (by lia) (A.up (by lia) (by lia)) (by lia,λi j o s=>?_,λi j hi s hm=>?_,λi a b=>?_,λi j o s hi=>?_))
    .exact F.fr i j o (by lia)
    .by_cases e:j<m
     .exact F.st i j (by lia) (by lia) e
     .obtain rfl:j=m:=by lia
      rw[t];exact F.st i (j-1) (by lia) (by lia) (by lia)
    .rw [w1c];by_cases e:i<m
     .rw [F.eq i (by lia) e,t]
     .obtain rfl:i=m:=by lia
      rfl
    .by_cases e:j<m
     .exact F.or i j o e (by lia)
     .obtain rfl:j=m:=by lia
      rw[l];exact A.lo i (by lia)
theorem z7S{m:Nat}{k:Nat->Int}(h1:1<=m)(A:Ar n m p)(D:Dn k m p):
  kOk n k (λr=>1<=r.1/\r.1<=n/\Ar n r.1 r.2/\Up k r.1 r.2) (kas_tail3 m n p):=by
 refine z1l (jY (λa h=>?_) (zbw (n-m) m h1 (by have:=A.mn;lia) (A.rev (wA _)) (D.rev A)));exact(by show 1<=a;lia,h.2.1,h.2.2.1,h.2.2.2)
theorem z45{m:Nat}{k:Nat->Int}(h1:m+1<=n)(A:Ar n (m+1) p)(F:Fal k (m+1) 0 p):
  kOk n k (λr=>1<=r.1/\r.1<=n/\Ar n r.1 r.2/\Up k r.1 r.2) (kas_descPart m n p):=by
 refine z1l (jY (λa h=>?_) (z4w (n-(m+1)) p (m+1) 0 (by lia) A F));obtain⟨b1,b2,b,c⟩:=h;by_cases q0:a.2.2 > 0
 .rw [qd q0];exact z7S (by lia) (b.rev (wA _)) (c.dn b).1
 .rw [wW q0];obtain⟨p',d,q'⟩:=a;obtain rfl:q'=0:=by simpa using q0
  exact z7S (by have:m+1<=d:=b1;show 1<=d;lia) b c.dn0.1
theorem za1{n:Nat}{k:Nat->Int}{p:Array Nat}:∀(f m:Nat),1<=m->m+f=n->Ar n m p->Up k m p->
  kOk n k (λb=>m<=b/\b<=n/\Ar n b p/\Up k b p/\(b<n->k (at' p b)<k (at' p (b-1)))) (kas_asc p f m)
 | 0,m,_,l,A,U=>(wA _,by lia,A,U,λh=>by lia)
 | f+1,m,h1,l,A,U=>by
  show kOk n k _ (KasT.ask _ _ _)
  rw[getD_at,getD_at];have d:=A.id m (wA _) (by lia);have r:=A.lo (m-1) (by lia);refine z3G (by rw[d];lia) (by lia) (λc=>?_) λc=>?_
  .skip
   exact(wA _,by lia,A,U,λv=>c)
  .skip
   refine jY (λa h=>(by lia,h.2)) (za1 f (m+1) (by lia) (by lia) (A.up (by lia) (by lia)) ?_);have last:Rk k (at' p (m-1)) (at' p m):=by unfold Rk;lia
   intro i j o q;by_cases e:j<m
   .exact U i j o e
   .obtain rfl:j=m:=by lia
    by_cases e2:i=j-1
    .rw [e2];exact last
    .exact(U i (j-1) (by lia) (by lia)).trans last
theorem zcs{k:Nat->Int}(hn:1<=n)(A:Ar n 1 p):kOk n k (λr=>1<=r.1/\r.1<=n/\Ar n r.1 r.2/\Up k r.1 r.2) (kas_count n p):=by
 refine z1l (jY (λm h=>?_) (za1 (n-1) 1 (wA _) (by lia) A (λi j a b=>by lia)));obtain⟨b1,b2,d,f,o⟩:=h;by_cases e:m=n
 .rw [qd (by simpa using e)];exact(b1,b2,d,f)
 rw[wW (by simpa using e)];have hs:m<=p.size:=by rw[A.sz];exact b2
 have l:=o (by lia);by_cases e1:m > 1
 .rw [qd e1]
  show kOk n k _ (KasT.ask _ _ _)
  rw[getD_at,getD_at];refine z3G (d.lt (by lia)) (d.lt (by lia)) (λc=>?_) λc=>?_
  .exact(b1,b2,d,f)
  .have s:Ar n m (kas_rev p 0 m):=d.rev (wA _);have t:∀i,i<m->k (at' p i)=k (at' p (m-1)):=λi hi=>by
    have h0:k (at' p 0)<=k (at' p i):=by
     by_cases e:i=0
     .rw [e];exact Int.le_refl _
     .have:=f 0 i (by lia) hi;unfold Rk at this;lia
    have h1:k (at' p i)<=k (at' p (m-1)):=by
     by_cases e:i=m-1
     .rw [<-e];exact Int.le_refl _
     .have:=f i (m-1) (by lia) (by lia);unfold Rk at this;lia
    lia
   have D:Dn k m (kas_rev p 0 m):=λi j w u=>by
    rw[z0k hs,z0k hs,qd (by lia),qd (by lia)];exact f _ _ (by lia) (by lia)
   refine z45 (by lia) (s.up (by lia) (by lia)) (Fal.step (n:=n) (y:=k (at' p (m-1))) (by lia) D (λx q=>?_) ?_)
   .rw [z0k hs,qd (by lia)];have:=t (0+m-1-x) (by lia)
    lia
   .rw [z0k hs,wW (by lia)];exact l
 .rw [wW e1];obtain rfl:m=1:=by lia
  refine z45 (by lia) (d.up (by lia) (by lia)) (Fal.step (n:=n) (y:=k (at' p 0)) (by lia) (λi j a b=>by lia) (λx q=>?_) l);obtain rfl:x=0:=by lia
  exact Int.le_refl _
theorem z59{n m:Nat}{k:Nat->Int}{p:Array Nat}(hm:m<n)(A:Ar n m p)(U:Up k m p):∀(f l r:Nat),l<=r->r<=m->r-l<=f->
  (∀i,i<l->k (at' p i)<=k (at' p m))->(∀i,r<=i->i<m->k (at' p m)<k (at' p i))->
  kOk n k (λd=>d<=m/\(∀i,i<d->k (at' p i)<=k (at' p m))/\∀i,d<=i->i<m->k (at' p m)<k (at' p i)) (kas_place p m f l r)
 | 0,l,r,h1,h2,h,a,b=>(by lia,a,λi x y=>b i (by lia) y)
 | f+1,l,r,h1,h2,h,a,b=>by
  unfold kas_place;by_cases e:l≥r
  .rw [qd e];exact(by lia,a,λi x y=>b i (by lia) y)
  rw[wW e,getD_at,getD_at];refine z3G (A.lt hm) (A.lt (by lia)) (λc=>?_) λc=>?_
  .refine z59 hm A U f l ((l+r)/2) (by lia) (by lia) (by lia) a λi x y=>?_
   by_cases e2:i=(l+r)/2
   .rw [e2];exact c
   .have:=U ((l+r)/2) i (by lia) y;unfold Rk at this;lia
  .refine z59 hm A U f ((l+r)/2+1) r (by lia) (by lia) (by lia) (λi x=>?_) b;by_cases e2:i=(l+r)/2
   .rw [e2];lia
   .have:=U i ((l+r)/2) (by lia) (by lia);unfold Rk at this;lia
theorem zaP{m d:Nat}(hm:m<p.size)(hd:d<=m)(x:Nat):at' (bubble p m d) x=if x=m-d then at' p m else if m-d<x/\x<=m then at' p (x-1)else at' p x:=by
 unfold at';rw[getElem?_bubble hm d hd];split
 .rfl
 .split<;>rfl
theorem zcZ{n:Nat}{k:Nat->Int}:∀(f:Nat) (p:Array Nat) (m:Nat),m+f=n->Ar n m p->Up k m p->
  kOk n k (λp'=>Ar n n p'/\Up k n p') (kas_bin f p m)
 | 0,p,m,h,A,U=>by
  obtain rfl:m=n:=by lia
  exact(A,U)
 | f+1,p,m,h,A,U=>by
  have hs:m<p.size:=by rw[A.sz];lia
  have e:=A.id m (wA _) (by lia);refine z1l (jY (λl hl=>?_) (z59 (by lia) A U m 0 m (by lia) (wA _) (by lia) (λi x=>by lia) (λi x y=>by lia)));obtain⟨c1,o,r⟩:=hl;have c:∀x,at' (bubble p m (m-l)) x=if x=l then at' p m else if l<x/\x<=m then at' p (x-1)else at' p x:=λx=>by
   rw[zaP hs (by lia),show m-(m-l)=l by lia]
  refine zcZ f _ (m+1) (by lia) (by rw[bubble_size,A.sz],by lia,λi a b=>?_,λi a=>?_,(bubble_perm _ _ _).trans A.pm) λi j t s=>?_
  .rw [c,wW (by lia),wW (by lia)];exact A.id i (by lia) b
  .rw [c];split
   .lia
   .split
    .have:=A.lo (i-1) (by lia);lia
    .have:=A.lo i (by lia);lia
  .rw [c,c];have q:∀x,x<m->at' p x<at' p m:=λx d=>by rw[e];exact A.lo x d
   by_cases e1:i=l
   .rw [qd e1,wW (by lia),qd (by lia)];exact w0g (r (j-1) (by lia) (by lia))
   .rw [wW e1];by_cases e2:l<i/\i<=m
    .rw [qd e2,wW (by lia),qd (by lia)];exact U _ _ (by lia) (by lia)
    .rw [wW e2];by_cases e3:j=l
     .rw [qd e3];have a:=o i (by lia);have b:=q i (by lia);unfold Rk;lia
     .rw [wW e3];by_cases e4:l<j/\j<=m
      .rw [qd e4];exact U _ _ (by lia) (by lia)
      .rw [wW e4];exact U _ _ (by lia) (by lia)
theorem Ar.all:Ar n 0 (List.toArray (List.range n)):=by
 refine(by simp,qU _,λi v h=>?_,λi h=>by lia,Array.Perm.refl _);unfold at';simp[h]
theorem z9k(hn:1<=n)(k:Nat->Int):kOk n k (λp=>p.toList.Perm (List.range n)/\p.toList.Pairwise (Rk k)) (kas_sort n):=by
 have fin:∀p:Array Nat,Ar n n p->Up k n p->p.toList.Perm (List.range n)/\p.toList.Pairwise (Rk k):=λp A U=>by
  refine(by have:=A.pm;rw[Array.perm_iff_toList_perm]at this;simpa using this,?_);rw[Qu];intro i j hi c q;have f:j<n:=by rw[<-A.sz];simpa using c
  have:=U i j q f;unfold at' at this;have o:i<p.size:=by rw[A.sz];lia
  have l:j<p.size:=by rw[A.sz];lia
  simpa [o,l]using this
 refine z1l (jY (λr h=>?_) (zcs hn (Ar.all.up (by lia) hn)));obtain⟨b1,b2,a,b⟩:=h;by_cases e:r.1<n
 .rw [qd e];have hm:max r.1 1=r.1:=by lia
  rw[hm];exact jY (λp h=>fin p h.1 h.2) (zcZ (n-r.1) r.2 r.1 (by lia) a b)
 .rw [wW e];have d:r.1=n:=by lia
  rw[d]at a b;exact fin r.2 a b
end L2

namespace L2
open PySem PySem.Spec PyProof.Rows PySem.W
variable{ss:List Str}
theorem z8o:∀{us:List Value},zM (ss.map V.str) us->StrsAre us ss:=by
 induction ss with
 | nil=>intro us r;rw[w1F]at r;cases r;exact .nil
 | cons n ns a=>
  intro us r;rw[qF]at r;cases r with
  | cons r1 r2=>
   obtain⟨t,rfl⟩:=r1;exact .cons _ _ (a r2)
variable{X:Cx}
theorem z1X(hc:X.calm=true):ki X (.builtin "sum") (λxs H Q=>∃(a:Addr) (ns:List Int),xs= [.ref a]/\SqL X.K H a (ns.map V.int)/\Q (.int ns.sum) H):=by
 intro pins s σ H xs us Q I r h;obtain⟨a,ns,rfl,hq,q⟩:=h;obtain⟨u,rfl,d⟩:=vals1 r;cases d;obtain⟨its,r',pl,hz⟩:=I.list hq;have hi:IntsAre its.toArray.toList ns:=intsAre_of r';obtain⟨xs,b⟩:=hi.allInts.items;have f:s.heap.IsList a (intItems xs):=b ▸ pl.isList;refine sum_intListG (I.ok.hd hc) f λh' tk t' e=>?_
 have i:ns=xs.toList.map (·.1):=by
  rw[<-nums_intItems,<-b];exact(show numsOf its.toArray.toList=ns from hi.numsOf).symm
 have c:preSum (numAt xs) xs.size=ns.sum:=by
  rw[preSum_eq,Q0 (by simp),i]
 rw[c];exact(.int ns.sum,H,I.kept e,(_,rfl),q)
def zbv(x:V)(z:Str):Prop:=(∃i:Int,x= .int i/\i.natAbs.log2<1920/\z=toString i)\/x= .str z
theorem z2C:ki X (.type "str") (λxs H Q=>∃x z,xs= [x]/\zbv x z/\Q (.str z) H):=by
 intro pins s σ H xs us Q I r h;obtain⟨x,z,rfl,h,q⟩:=h;rcases h with⟨i,rfl,hi,rfl⟩|rfl
 .exact z6L pins s σ H _ us Q I r (i,rfl,hi,q)
 .obtain⟨u,rfl,t,rfl⟩:=vals1 r;exact PySem.P.str_of_str (.str z,H,I,(_,rfl),q)
def rJoin(K:W.Frag):V->List V->Hp->VK->Prop:=λx vs H Q=>∃z l ys,x= .str z/\vs= [.ref l]/\SqL K H l (ys.map V.str)/\(ys.map (·.length)).sum+ys.length*z.length<=16777216/\Q (.str (Str.join z ys)) H
theorem z9B:MtM X "str.join" (rJoin X.K):=by
 intro pins s σ H x vs v us Q I a b h;obtain⟨z,l,ys,rfl,rfl,hq,hz,q⟩:=h;obtain⟨t,rfl⟩:=a;obtain⟨u,rfl,c⟩:=b.one;cases c;obtain⟨its,r,pl,hsz⟩:=I.list hq;refine join_list (items:=its.toArray) pl.isList (z8o r) hz λt' k=>?_
 have e:Txt.join z ys=Str.join z ys:=StrLaws.glued_eq_join _ _;rw[e];exact(.str _,H,I.tok _,(_,rfl),q)
noncomputable def eqL(xs ys:List V):Bool:=decide (xs.length=ys.length)&&(List.range xs.length).all λj=>eqV (xs.getD j .non) (ys.getD j .non)
def ze5(K:W.Frag):R2:=λx y H Q=>∃a b xs ys,x= .ref a/\y= .ref b/\SqL K H a xs/\SqL K H b ys/\xs.all ko=true/\ys.all ko=true/\Q (.bl (eqL xs ys)) H
theorem zaj(L:X.A.units+1<cLine):OpR X (compareOp .Eq) (ze5 X.K):=by
 intro pins s σ H x y v u Q I p D h;have i:X.A.units<cLine:=by lia
 obtain⟨a,b,xs,ys,rfl,rfl,ha,G,E,C,q⟩:=h;cases p;cases D;obtain⟨its,r,pl,hz⟩:=I.list ha;obtain⟨t,r2,f,_⟩:=I.list G;have l1:=r.length;have l2:=r2.length;by_cases hl:xs.length=ys.length
 .refine SeqAt.eq_listAt (e:=λj=>eqV (xs.getD j .non) (ys.getD j .non)) pl.isList f.isList (by rw[wB,wB];lia) i (λj h1 h2=>?_) ?_
  .have o:j<xs.length:=by rw[wB]at h1;lia
   have w:j<ys.length:=by lia
   have c:xs[j]? =some xs[j]:=we o;have d:ys[j]? =some ys[j]:=we w;obtain⟨w1,J,z⟩:=r.get c;obtain⟨w2,n,l⟩:=r2.get d;have B:its.toArray[j]=w1:=by rw[w0k];exact(wg.mp J).2
   have F:t.toArray[j]=w2:=by rw[w0k];exact(wg.mp n).2
   rw[B,F,wn,wn,c,d];exact z6Y z l (qS.mp E _ (qN c)) (qS.mp C _ (qN d))
  .refine(.bl (eqL xs ys),H,I,?_,q)
   show Value.bool _=Value.bool _
   rw[eqL,wN hl,w1J,wB,<-l1]
 .refine SeqAt.eq_list_lengthsAt pl.isList f.isList ?_ i (.bl (eqL xs ys),H,I,?_,q)
  .rw [wB,wB,bne_iff_ne,<-l1,<-l2];exact hl
  .show Value.bool false=Value.bool _
   rw[eqL,wK hl,w1p]
theorem z7X{a:List Str}:eqL (ss.map V.str) (a.map V.str)=decide (ss=a):=by
 unfold eqL;rw[w9,w9];by_cases e:ss=a
 .subst e;rw[wN rfl,wN rfl,w1J,qS];intro j b;rw[Qm]at b;rw[wn,wM,we b]
  show(ss[j] == ss[j])=true
  exact w0j _
 .rw [wK e];by_cases hl:ss.length=a.length
  .rw [wN hl,w1J,QD];intro h;rw[qS]at h;refine e (List.ext_getElem hl λj h1 h2=>?_);have:=h j (Qm.mpr h1);rw[wn,wM,we h1,wn,wM,we h2]at this;have c:(ss[j] == a[j])=true:=this;exact eq_of_beq c
  .rw [wK hl,w1p]
variable{a:Addr}{xs:List V}{ix:List Nat}{te:TE}{Q:List V->Hp->Prop}{H:Hp}
theorem zbI{K:W.Frag}{σ:St}{tc:TT}(c:Nat->List V->Hp->Prop)(h0:c 0 [] H)(hl:∀i ys H,i<=xs.length->c i ys H->SqT K H a xs/\ys.length<sizeLine)
  (hs:∀(i:Nat) x ys H,xs[i]? =some x->c i ys H->tc (sub σ ix (some x)) H λb H2=>if b=true then te (sub σ ix (some x)) H2 λy d=>c (i+1) (ys++[y]) d else c (i+1) ys H2) (hd:∀ys H,c xs.length ys H->Q ys H):z0n (Itt K a) σ ix tc te Q H:=by
 refine(λi m ys H=>m=xs.length-i/\i<=xs.length/\c i ys H,(_,rfl,qU _,h0),?_);rintro i m ys H ⟨rfl,hi,p⟩;obtain⟨q,hz⟩:=hl i ys H hi p;refine(hz,?_);by_cases af:i<xs.length
 .refine .inr ((xs,xs[i],q,by simp[af]),λy d=>c (i+1) (ys++[y]) d,λH2=>c (i+1) ys H2,λy d z=>(xs.length-(i+1),by lia,rfl,af,z),λH2 z=>(xs.length-(i+1),by lia,rfl,af,z),λx H' y=>?_);obtain⟨e,y⟩:=y;subst e;exact hs i x ys _ (y xs q) p
 .have e:i=xs.length:=by lia
  subst e;exact .inl ((xs,q,wA _),hd ys H p)
def z3H{K:W.Frag}{σ:St}(b:Nat->List V->Hp->Prop)(h0:b 0 [] H)(hl:∀i ys H,i<=xs.length->b i ys H->SqT K H a xs/\ys.length<sizeLine)
  (hs:∀(i:Nat) x ys H,xs[i]? =some x->b i ys H->te (sub σ ix (some x)) H λy c=>b (i+1) (ys++[y]) c) (hd:∀ys H,b xs.length ys H->Q ys H):z0n (Itt K a) σ ix z7N te Q H:=
 zbI b h0 hl (λi x ys H e p=>z8W (A:=te (sub σ ix (some x)) H λy c=>b (i+1) (ys++[y]) c) (B:=b (i+1) ys H) (hs i x ys H e p)) hd
theorem z5U{p q:Nat->Bool}:∀{l:List Nat},(∀x∈l,p x=true->q x=true)->(∃x∈l,q x=true/\p x=false)->l.countP p<l.countP q
 | [],_,(x,hx,_)=>by cases hx
 | y::l,h,(x,hx,h1,h2)=>by
  have a:l.countP p<=l.countP q:=List.countP_mono_left λz hz=>h z (wZ _ hz)
  rw[List.countP_cons,List.countP_cons];rcases wL.mp hx with rfl|hx
  .rw [h1,h2];simp;lia
  .have b:=z5U (λz hz=>h z (wZ _ hz)) (x,hx,h1,h2);have c:=h y qy;cases hp:p y<;>cases hq:q y<;>simp_all<;>lia
noncomputable def rank(n:Nat)(lt:Nat->Nat->Bool)(i:Nat):Int:=(((List.range n).countP λm=>lt m i:Nat):Int)
variable{n:Nat}
theorem zdh{lt:Nat->Nat->Bool}(a:∀i,lt i i=false)(tr:∀i j k,lt i j=true->lt j k=true->lt i k=true)(nt:∀i j k,lt i k=true->lt i j=true\/lt j k=true){i j:Nat}(hi:i<n)(b:j<n):
  decide (rank n lt i<rank n lt j)=lt i j:=by
 cases h:lt i j with
 | true=>
  refine wN ?_;have:(List.range n).countP (λm=>lt m i)<(List.range n).countP (λm=>lt m j):=z5U (λx v e=>tr x i j e h) (i,Qm.mpr hi,h,a i);unfold rank;lia
 | false=>
  refine wK ?_;have:(List.range n).countP (λm=>lt m j)<=(List.range n).countP (λm=>lt m i):=List.countP_mono_left λx v e=>by
   rcases nt x i j e with h'|h'
   .exact h'
   .rw [h]at h';cases h'
  unfold rank;lia
variable{vs:List Value}
theorem zbE{R:Nat->Nat->Prop}(h:vs.length<2):(List.range vs.length).Pairwise R:=by
 rcases(by lia:vs.length=0\/vs.length=1)with e|e<;>rw[e]
 .exact List.Pairwise.nil
 .exact List.pairwise_singleton _ _
theorem z61{ks:List Value}(h:vs.length<2)(e:ks.length=vs.length):(ks.toArray.zip vs.toArray).map (·.2)=((List.range vs.length).map λi=>vs.getD i Value.none).toArray:=by
 rcases vs with _|⟨x,_|⟨y,vs⟩⟩<;>rcases ks with _|⟨k,_|⟨l,ks⟩⟩<;>first|(exfalso;simp only[wP,QN]at h e;lia)|simp
variable{prog:Program}{w:World}{A:Around}{E:Value->Shared->Prop}{s:Shared}
theorem z5B{P:PySem.Fin->Shared->Prop}{κ:SortKind}{k:Nat->Int}(f:s.heap.get? a=some (seqObj "list" vs.toArray n))(K:vs.length<64)
  (H:2<=vs.length->∀(h':Heap) (Q:SortKind->Shared->Prop),(∀b o,b≠a->s.heap.get? b=some o->h'.get? b=some o)->Q κ {s with heap:=h'}->wpAny (model prog w) A (keyKind' vs.toArray) Q E {s with heap:=h'})
  (I:∀(h':Heap),(∀b o,b≠a->s.heap.get? b=some o->h'.get? b=some o)->∀i j (C:Bool->Shared->Prop),i<vs.length->j<vs.length->C (decide (k i<k j)) {s with heap:=h'}->
   wpAny (model prog w) A (keyLt' κ (vs.getD i Value.none) (vs.getD j Value.none)) C (λv v=>False) {s with heap:=h'})
  (h:∀is:List Nat,is.Perm (List.range vs.length)->is.Pairwise (Rk k)->P (.done (.ret .none)) {s with heap:=sortedHeap s.heap a vs (is.map λi=>vs.getD i Value.none).toArray}):
  wpAny (model prog w) A (Builtin.«list.sort» ([.ref a],[])) P E s:=by
 rw[list_sort_plain];have ha:a<s.heap.objs.size:=wQ f;refine wD (listItems_at f rfl ?_);refine wD (w1m f rfl ?_);obtain⟨r,u⟩:∃r,(s.heap.update a (Obj.mapSeq λv=> #[])).get? a=some (seqObj "list" #[] r):=(_,get?_update_seq f (λv=> #[]))
 refine wD (seqEpoch_at u rfl ?_);refine wD (wpAny_newTuple ?_);refine wD (wpAny_newList ?_);refine QO ?_;have l:(((s.heap.update a (Obj.mapSeq λv=> #[])).push (seqObj "tuple" vs.toArray 0)).push (seqObj "list" #[] 0)).get? a=some (seqObj "list" #[] r):=by
  rw[Heap.get?_push_ne _ _ _ (by rw[size_push',Heap.size_update];exact qc (Qc ha)),Heap.get?_push_ne _ _ _ (by rw[Heap.size_update];exact qc ha)];exact u
 have kp:∀b o,b≠a->s.heap.get? b=some o->(((s.heap.update a (Obj.mapSeq λv=> #[])).push (seqObj "tuple" vs.toArray 0)).push (seqObj "list" #[] 0)).get? b=some o:=λb o D e=>by
  refine wu _ (wu _ ?_);rw[w1y _ _ _ _ D];exact e
 show wpAny (model prog w) A _ P E {s with heap:=((s.heap.update a (Obj.mapSeq λv=> #[])).push (seqObj "tuple" vs.toArray 0)).push (seqObj "list" #[] 0)}
 dsimp only;have hsz:vs.toArray.size=vs.length:=by simp
 by_cases h2:vs.toArray.size<2
 .rw [qd h2,qd h2];refine wD (q9 ?_);rw[StateT.run_pure];refine wD (q9 ?_);dsimp only;refine wD (seqEpoch_at l rfl ?_);refine wD (w1m l rfl ?_ (hsz2:=by rw[Array.size_map];show(pairsOf vs).size<=_;rw[pairsOf_size,Qq];lia));simp only[bne_self_eq_false,w0h,w0B];have t:vs.length<2:=by lia
  have c:(arrOf (SortSt.mk' general' (vs.toArray.zip vs.toArray) #[] 7 none)).map (·.2)=((List.range vs.length).map λi=>vs.getD i Value.none).toArray:=by
   have J:arrOf (SortSt.mk' general' (vs.toArray.zip vs.toArray) #[] 7 none)=vs.toArray.zip vs.toArray:=rfl;rw[J];exact z61 t rfl
  refine q9 ?_;have:=h (List.range vs.length) (List.Perm.refl _) (zbE t);rw[<-c]at this;exact this
 .rw [wW h2,wW h2];refine wD (H (by lia) _ _ kp ?_);refine wD (Qa (kat_run (Q:=λd s'=>∃p:Array Nat,(arrOf d).map (·.2)=(p.toList.map λi=>vs.getD i Value.none).toArray/\failedOf d=none/\s'={s with heap:=((s.heap.update a (Obj.mapSeq λv=> #[])).push (seqObj "tuple" vs.toArray 0)).push (seqObj "list" #[] 0)}/\p.toList.Perm (List.range vs.length)/\p.toList.Pairwise (Rk k)) (vs:=vs) (ks:=vs) (G:=λp s'=>s'={s with heap:=((s.heap.update a (Obj.mapSeq λv=> #[])).push (seqObj "tuple" vs.toArray 0)).push (seqObj "list" #[] 0)}/\p.toList.Perm (List.range vs.length)/\p.toList.Pairwise (Rk k)) rfl (by lia) K (λp d s' h1 x q B=>(p,kat_snds rfl x,q,B))
   (z90 (n:=vs.length) (k:=k) (λi j C hi y F=>I _ kp i j C hi y F) (jY (λp hp=>(rfl,hp)) (z9k (by lia) k)))) ?_ λv v e=>e)
  rintro⟨⟨⟩,d⟩ s' ⟨p,c,q,rfl,pm,z⟩;dsimp only;refine wD (seqEpoch_at l rfl ?_);refine wD (w1m l rfl ?_ (hsz2:=by rw[c,wB,w9,pm.length_eq,w0W,Qq];lia));rw[q];simp only[bne_self_eq_false,w0h,w0B];have:=h p.toList pm z;rw[<-c]at this;exact q9 this
noncomputable def z1U(a b:Int×Int):Bool:=decide (a.1<b.1\/(a.1=b.1/\a.2<b.2))
theorem zdA{x y:Addr}{a b c d:Int}{t u v z:Tok}{C:Bool->Shared->Prop}(f:IsTup s.heap x #[.int a t,.int b u])(i:IsTup s.heap y #[.int c v,.int d z])(h:C (z1U (a,b) (c,d)) s):
  wpAny (model prog w) A (keyLt' (tuples' true) (.ref x) (.ref y)) C E s:=by
 obtain⟨D,o,_,B,n⟩:=f;obtain⟨q,j,_,F,l⟩:=i;refine kat_lt o n j l ?_;refine kat_cons (SeqAt.EqAt.int_int a t c v prog w _ _ (kat_go (λe=>kat_yes ?_) (λe=>kat_no ?_)))
 .have p:a=c:=by simpa using e
  refine kat_cons (SeqAt.EqAt.int_int b u d z prog w _ _ (kat_go (λe=>kat_yes (kat_nil ?_)) (λe=>kat_no ?_)))
  .have r:b=d:=by simpa using e
   have:z1U (a,b) (c,d)=false:=wK (by simp only;lia);rw[this]at h
   simpa using h
  .have:z1U (a,b) (c,d)=decide (b<d):=by
    unfold z1U;exact w1s.mpr (by simp only;lia)
   rw[this]at h;refine kat_one _ _ ?_;exact PyProof.Rows.lt_int (Q:=PySem.W.BoolBack C) h
 .have p:¬a=c:=by simpa using e
  have:z1U (a,b) (c,d)=decide (a<c):=by
   unfold z1U;exact w1s.mpr (by simp only;lia)
  rw[this]at h;exact oneLt_int h
theorem zbt(a:Int×Int):z1U a a=false:=wK (by lia)
variable{b c:Int×Int}
theorem zdQ{a:Int×Int}(h:z1U a b=true)(h':z1U b c=true):z1U a c=true:=by
 have h:=qD h;have h':=qD h';exact wN (by lia)
theorem zee{a:Int×Int}(h:z1U a c=true):z1U a b=true\/z1U b c=true:=by
 have h:=qD h;by_cases e:z1U a b=true
 .exact .inl e
 .refine .inr (wN ?_);have d:¬(a.1<b.1\/(a.1=b.1/\a.2<b.2)):=λz=>e (wN z)
  lia
abbrev PQ:=Addr×Int×Int
noncomputable def pq0:PQ:=(0,0,0)
theorem zab{H:Hp}{s:Shared}{pins:List (Addr×Obj)}{σ:St}(I:Inv X pins σ H s){h':Heap}(kp:∀b o xs n,s.heap.get? b=some o->o.data= .seq xs n->o.cls= .type "tuple"->h'.get? b=some o):∀(ps:List PQ) (us:List Value),(∀p∈ps,H p.1=some (.tup [.int p.2.1,.int p.2.2]))->zM (ps.map λp=>V.ref p.1) us->
  ∃fs:List Value,KatTups h' us fs/\fs.length=ps.length/\∀v∈fs,∃a t,v=Value.int a t
 | [],us,_,r=>by cases r;exact([],.nil,rfl,λv h=>by cases h)
 | p::ps,us,hp,r=>by
  rw[qF]at r;cases r with
  | cons r1 r2=>
   cases r1;obtain⟨fs,k,l,hi⟩:=zab I kp ps _ (λq hq=>hp q (wZ _ hq)) r2;obtain⟨its,r',pl,_⟩:=I.tuple (SqT.of (hp p qy));obtain⟨u,e,rfl,⟨t,rfl⟩,_⟩:=vals2 r';obtain⟨o,d,c,n,hd⟩:=pl;refine(.int p.2.1 t::fs,KatTups.cons (kp _ _ _ _ d hd c) c hd rfl k,by rw[wP,l,wP],λv hv=>?_);rcases wL.mp hv with rfl|hv
   .exact(_,_,rfl)
   .exact hi v hv
theorem z6H(hc:X.calm=true):ki X (.builtin "sorted") (λxs H Q=>∃(l:Addr) (ps:List PQ),xs= [.ref l]/\SqL X.K H l (ps.map λp=>V.ref p.1)/\(∀p∈ps,H p.1=some (.tup [.int p.2.1,.int p.2.2]))/\ps.length<64/\
  ∀(r:Addr) (is:List Nat),H r=none->is.Perm (List.range ps.length)->is.Pairwise (λi j=>z1U (ps.getD j pq0).2 (ps.getD i pq0).2=false)->Q (.ref r) (upd H r (.lst (is.map λi=>V.ref (ps.getD i pq0).1)))):=by
 intro pins s σ H xs us Q I r h;obtain⟨l,ps,rfl,hq,hp,iu,q⟩:=h;obtain⟨u,rfl,M⟩:=vals1 r;cases M;obtain⟨vs,y,pl,hz⟩:=I.list hq;have hlen:vs.length=ps.length:=by
  have:=y.length;rw[w9]at this
  lia
 refine Calls.call_function_entry kind_sorted plain_sorted entry_sorted (args_sorted1 _) ?_;unfold Builtin.«sorted»;refine wD (m:=checkCount "sorted" 1 1 _) (q9 ?_);refine wD (collect_list pl.isList ?_ (by rw[Qq];lia));refine wD (wpAny_newList ?_ (by rw[Qq];lia));obtain⟨h1,E⟩:∃h1,(s.heap.push (seqObj "list" #[] 0)).update s.heap.objs.size (Obj.mapSeq (·++vs.toArray))=h1:=(_,rfl)
 have kp1:∀b o,s.heap.get? b=some o->h1.get? b=some o:=λb o e=>by
  have d:=wQ e;rw[<-E,w1y _ _ _ _ (qc d)];exact wu _ e
 rw[E];have D:Inv X pins σ H {s with heap:=h1}:=I.kept (t':=s.toks) kp1;have B:(h1.push (seqObj "list" vs.toArray 0)).get? h1.objs.size=some (seqObj "list" vs.toArray 0):=qh _ rfl;have kp2:∀b o,s.heap.get? b=some o->b≠h1.objs.size/\(h1.push (seqObj "list" vs.toArray 0)).get? b=some o:=λb o e=>(qc (wQ (kp1 b o e)),wu _ (kp1 b o e))
 obtain⟨lt,x⟩:∃lt:Nat->Nat->Bool,lt=λi j=>z1U (ps.getD i pq0).2 (ps.getD j pq0).2:=(_,rfl)
 have G:∀{i j:Nat},i<ps.length->j<ps.length->decide (rank ps.length lt i<rank ps.length lt j)=lt i j:=λhi c=>
  zdh (λi=>by rw[x];exact zbt _) (λi j k a b=>by rw[x]at *;exact zdQ a b) (λi j k a=>by rw[x]at *;exact zee a) hi c
 refine wD (QO (wpAny_call_entry slot_list_sort (_,B,rfl) entry_list_sort (z5B (κ:=tuples' true) (k:=rank ps.length lt) B (by lia) (λh2 h' Q' kp hQ=> ?kk) (λh' kp i j C hi c L=> ?cm) λis pm Z=>(_,rfl,?fin)) (args_list_sort _)))
 case kk=>
  obtain⟨fs,k,lf,hi⟩:=zab I (h':=h') (λb o xs n e W W=>kp b o (kp2 b o e).1 (kp2 b o e).2) ps vs hp y;refine kat_kind (T:= .type "int") k (by lia) (λv R=>?_) (by decide) hQ;obtain⟨a,t,rfl⟩:=hi v R;exact .now
 case cm=>
  have get:∀m,m<ps.length->∃(t u:Tok),vs.getD m Value.none= .ref (ps.getD m pq0).1/\IsTup h' (ps.getD m pq0).1 #[.int (ps.getD m pq0).2.1 t,.int (ps.getD m pq0).2.2 u]:=λm hm=>by
   have g:(ps.map λp=>V.ref p.1)[m]? =some (V.ref ps[m].1):=by rw[wM,we hm];rfl
   have F:ps.getD m pq0=ps[m]:=by rw[wn,we hm];rfl
   obtain⟨w,A,z⟩:=y.get g;cases z;obtain⟨its,r',pl,_⟩:=I.tuple (SqT.of (hp _ (wz hm)));obtain⟨u,w',rfl,⟨t,rfl⟩,⟨t',rfl⟩⟩:=vals2 r';obtain⟨o,J,bA,n,hd⟩:=pl;refine(t,t',?_,?_)
   .rw [wn,A,F];rfl
   .rw [F];exact(o,kp _ _ (kp2 _ _ J).1 (kp2 _ _ J).2,bA,n,hd)
  obtain⟨t,u,S,N⟩:=get i (by lia);obtain⟨t',u',Y,t2⟩:=get j (by lia);rw[S,Y];rw[G (by lia) (by lia),x]at L;exact zdA N t2 L
 case fin=>
  refine q9 (_,rfl,?_);obtain⟨e,he⟩:=sortedHeap_at (out:=(is.map λi=>vs.getD i Value.none).toArray) B;rw[hlen]at pm;have xV:is.Pairwise (λi j=>z1U (ps.getD j pq0).2 (ps.getD i pq0).2=false):=by
   refine(Qu.mpr λa b ha d cQ=>?_);have h0:=Qu.mp Z a b ha d cQ;have U:is[a]<ps.length:=Qm.mp (pm.mem_iff.mp (wz ha));have mb:is[b]<ps.length:=Qm.mp (pm.mem_iff.mp (wz d));have:=G mb U;have P:lt is[b] is[a]=z1U (ps.getD is[b] pq0).2 (ps.getD is[a] pq0).2:=by rw[x]
   rw[<-P,<-this];refine wK ?_;unfold Rk at h0
   lia
  refine(.ref h1.objs.size,upd H h1.objs.size (.lst (is.map λi=>V.ref (ps.getD i pq0).1)),?_,rfl,q _ is D.fresh pm xV);refine D.laid (a:=h1.objs.size) (t':=s.toks) (λb o e=>?_) (wA _) (?_,is.map λi=>vs.getD i Value.none,e,?_,?_)
  .have d:=wQ e;rw[sortedHeap_old (qc d) (by rw[Qo];exact Qc d)];exact wu _ e
  .rw [w9,pm.length_eq,w0W];exact jb (by lia)
  .have go:∀f:List Nat,(∀j∈f,j<ps.length)->zM (f.map λi=>V.ref (ps.getD i pq0).1) (f.map λi=>vs.getD i Value.none):=λf=>by
    induction f with
    | nil=>intro _;exact .nil
    | cons j f O=>
     intro c;rw[qF,qF];refine .cons ?_ (O λm hm=>c m (wZ _ hm));have hm:=c j qy;have g:(ps.map λp=>V.ref p.1)[j]? =some (V.ref ps[j].1):=by rw[wM,we hm];rfl
     obtain⟨w,A,z⟩:=y.get g;rw[wn,we hm,wn,A];exact z
   exact go is λj c=>Qm.mp (pm.mem_iff.mp c)
  .exact he
@[elab_as_elim] theorem z86 {motive:Hp->Prop}  {p:Addr} {o:HO} (K:Hp) (e:K=upd H p o) (hp:H p=none) (h:∀H',zw H H'->H' p=some o->motive H'):motive K:=by
 subst e;exact h _ (zz hp o) zh
end L2

namespace Qs
open PySem L2 Cn Rw
inductive Qn where
 | table (n:Str)|pick (c:Cond) (q:Qn)|cols (ns:List Str) (q:Qn)|pair (q r:Qn)|join (a b:Str) (q r:Qn)
 | both (q r:Qn)|first (n:Int) (q:Qn)|group (a b n s:Str) (q:Qn)|sort (a:Str) (q:Qn)
def QAt(H:Hp):Qn->V->Prop
 | .table n,v=>∃p,v= .ref p/\H p=some (.tup [.str "table",.str n])
 | .pick c q,v=>∃p x y,v= .ref p/\H p=some (.tup [.str "pick",x,y])/\zE H c x/\QAt H q y
 | .cols ns q,v=>∃p x y,v= .ref p/\H p=some (.tup [.str "cols",.ref x,y])/\H x=some (.tup (ns.map V.str))/\QAt H q y
 | .pair q r,v=>∃p x y,v= .ref p/\H p=some (.tup [.str "pair",x,y])/\QAt H q x/\QAt H r y
 | .join a b q r,v=>∃p x y,v= .ref p/\H p=some (.tup [.str "join",.str a,.str b,x,y])/\QAt H q x/\QAt H r y
 | .both q r,v=>∃p x y,v= .ref p/\H p=some (.tup [.str "both",x,y])/\QAt H q x/\QAt H r y
 | .first n q,v=>∃p y,v= .ref p/\H p=some (.tup [.str "first",.int n,y])/\QAt H q y
 | .group a b n s q,v=>∃p y,v= .ref p/\H p=some (.tup [.str "group",.str a,.str b,.str n,.str s,y])/\QAt H q y
 | .sort a q,v=>∃p y,v= .ref p/\H p=some (.tup [.str "sort",.str a,y])/\QAt H q y
theorem QAt.mono{H H':Hp}(t:∀b xs,H b=some (.tup xs)->H' b=some (.tup xs)):∀{q:Qn} {v:V},QAt H q v->QAt H' q v
 | .table _,_,h=>by
  obtain⟨p,rfl,h⟩:=h;exact(p,rfl,t _ _ h)
 | .pick _ _,_,h=>by
  obtain⟨p,x,y,rfl,h,h1,h2⟩:=h;exact(p,x,y,rfl,t _ _ h,h1.mono t,h2.mono t)
 | .cols _ _,_,h=>by
  obtain⟨p,x,y,rfl,h,h1,h2⟩:=h;exact(p,x,y,rfl,t _ _ h,t _ _ h1,h2.mono t)
 | .pair _ _,_,h=>by
  obtain⟨p,x,y,rfl,h,h1,h2⟩:=h;exact(p,x,y,rfl,t _ _ h,h1.mono t,h2.mono t)
 | .join _ _ _ _,_,h=>by
  obtain⟨p,x,y,rfl,h,h1,h2⟩:=h;exact(p,x,y,rfl,t _ _ h,h1.mono t,h2.mono t)
 | .both _ _,_,h=>by
  obtain⟨p,x,y,rfl,h,h1,h2⟩:=h;exact(p,x,y,rfl,t _ _ h,h1.mono t,h2.mono t)
 | .first _ _,_,h=>by
  obtain⟨p,y,rfl,h,h2⟩:=h;exact(p,y,rfl,t _ _ h,h2.mono t)
 | .group _ _ _ _ _,_,h=>by
  obtain⟨p,y,rfl,h,h2⟩:=h;exact(p,y,rfl,t _ _ h,h2.mono t)
 | .sort _ _,_,h=>by
  obtain⟨p,y,rfl,h,h2⟩:=h;exact(p,y,rfl,t _ _ h,h2.mono t)
theorem QAt.same{H H':Hp}{q:Qn}{v:V}(e:zw H H')(h:QAt H q v):QAt H' q v:=h.mono λb xs z=>e b _ z
noncomputable def Side.txt:Side->Str
 | .nm s=>s
 | .nu i=>toString i
noncomputable def ends(a b:Side):Str:=Side.txt a ++ " " ++ Side.txt b
noncomputable def yu:Cond->Str
 | .less a b=>"(" ++ "less" ++ " " ++ ends a b ++ ")"
 | .same a b=>"(" ++ "same" ++ " " ++ ends a b ++ ")"
 | .no c=>"(" ++ "not" ++ " " ++ yu c ++ ")"
 | .an c d=>"(" ++ "and" ++ " " ++ (yu c ++ " " ++ yu d) ++ ")"
 | .or c d=>"(" ++ "or" ++ " " ++ (yu c ++ " " ++ yu d) ++ ")"
noncomputable def zy:Qn->Str
 | .table n=>n
 | .pick c q=>"(pick " ++ yu c ++ " " ++ zy q ++ ")"
 | .cols ns q=>"(cols " ++ Str.join " " ns ++ " " ++ zy q ++ ")"
 | .pair q r=>"(pair " ++ zy q ++ " " ++ zy r ++ ")"
 | .join a b q r=>"(join " ++ a ++ " " ++ b ++ " " ++ zy q ++ " " ++ zy r ++ ")"
 | .both q r=>"(both " ++ zy q ++ " " ++ zy r ++ ")"
 | .first n q=>"(first " ++ (toString n:Str) ++ " " ++ zy q ++ ")"
 | .group a b n s q=>"(group " ++ (a ++ " " ++ b ++ " " ++ n ++ " " ++ s) ++ " " ++ zy q ++ ")"
 | .sort a q=>"(sort " ++ a ++ " " ++ zy q ++ ")"
noncomputable def leK(k:Nat->Int)(i j:Nat):Bool:=decide (k i<k j\/(k i=k j/\i<=j))
noncomputable def z2Y(k:Nat->Int)(n:Nat):List Nat:=(List.range n).mergeSort (leK k)
theorem z0U(k:Nat->Int)(n:Nat):(z2Y k n).Perm (List.range n):=List.mergeSort_perm _ _
theorem z8l(k:Nat->Int)(n:Nat):(z2Y k n).Pairwise λi j=>leK k i j=true:=
 List.pairwise_mergeSort (λa b c h1 h2=>by
  have h1:=qD h1;have h2:=qD h2;exact wN (by lia)) (λa b=>by
  unfold leK;rw[Bool.or_eq_true,w0V,w0V]
  lia) _
theorem z41{k:Nat->Int}{n:Nat}{is:List Nat}(hp:is.Perm (List.range n))(c:is.Pairwise λi j=>leK k i j=true):is=z2Y k n:=by
 refine List.Perm.eq_of_pairwise (le:=λi j=>leK k i j=true) (λa b v v h1 h2=>?_) c (z8l k n) (hp.trans (z0U k n).symm);have h1:=qD h1;have h2:=qD h2
 lia
theorem z8s(k:Nat->Int)(n:Nat):(z2Y k n).length=n:=by rw[(z0U k n).length_eq,w0W]
noncomputable def z36(rows:List (List Int))(s:Nat)(i:Nat):Int:=(rows.getD i []).getD s 0
noncomputable def ke(s:Nat)(rows:List (List Int)):List (List Int):=(z2Y (z36 rows s) rows.length).map λi=>rows.getD i []
noncomputable def jK(s:Nat)(rows:List (List Int)):List Int:=rows.foldl (λacc r=>if r.getD s 0∈acc then acc else acc++[r.getD s 0]) []
noncomputable def yH(s p:Nat)(rows:List (List Int))(k:Int):List Int:= [k,(((rows.filter λr=>decide (r.getD s 0=k)).length:Nat):Int),((rows.filter λr=>decide (r.getD s 0=k)).map λr=>r.getD p 0).sum]
noncomputable def z2S(s p:Nat)(rows:List (List Int)):List (List Int):=(jK s rows).map (yH s p rows)
noncomputable def pairs(xs ys:List (List Int)):List (List Int):=xs.flatMap λx=>ys.map λy=>x++y
section
variable(th:Str->List Str)(tr:Str->List (List Int))
noncomputable def ze:Qn->List Str
 | .table n=>th n
 | .pick _ q=>ze q
 | .cols ns _=>ns
 | .pair q r=>ze q++ze r
 | .join _ _ q r=>ze q++ze r
 | .both q _=>ze q
 | .first _ q=>ze q
 | .group a _ n s _=> [a,n,s]
 | .sort _ q=>ze q
noncomputable def rowsOf:Qn->List (List Int)
 | .table n=>tr n
 | .pick c q=>(rowsOf q).filter λr=>ev (ze th q) r c
 | .cols ns q=>(rowsOf q).map λr=>ns.map λn=>r.getD ((ze th q).idxOf n) 0
 | .pair q r=>pairs (rowsOf q) (rowsOf r)
 | .join a b q r=>(pairs (rowsOf q) (rowsOf r)).filter λz=>decide (z.getD ((ze th q++ze th r).idxOf a) 0=z.getD ((ze th q++ze th r).idxOf b) 0)
 | .both q r=>rowsOf q++rowsOf r
 | .first n q=>(rowsOf q).take n.toNat
 | .group a b _ _ q=>z2S ((ze th q).idxOf a) ((ze th q).idxOf b) (rowsOf q)
 | .sort a q=>ke ((ze th q).idxOf a) (rowsOf q)
end
noncomputable def je:List Str:= ["a","b","f","g","h","i","j","k","l","o","p","q"]
noncomputable def z2U:List Str:= ["abcabcabcd","abcabcabce"]
noncomputable def signs:List Str:= ["a","b","c","d","e","f","g","h","i","j","k","l","m","n","o","p","q","r","s","t","u","v","w","x","y","z"]
noncomputable def z0q(k used:Nat):List Str:=je++(if 2<=used then z2U else [])++(if 3<=used then(["e"]:List Str)else [])++((signs.take k).map λs=>(("n":Str)++s:Str))++((signs.take k).map λs=>(("s":Str)++s:Str))
noncomputable def tabs:List Str:= ["t","tuvtuvtuvw","tuvtuvtuvx","tuvz"]
noncomputable def nums:List Int:= [0,1,-1,2,10 ^ 30,3]
noncomputable def z0t:List Int:= [9,1,5,3,12,7,0,10 ^ 9,4,2,8]
def Side.small(hs:List Str):Side->Prop
 | .nm s=>s∈hs
 | .nu i=>i∈nums
def jA(hs:List Str):Cond->Prop
 | .less a b=>Side.small hs a/\Side.small hs b
 | .same a b=>Side.small hs a/\Side.small hs b
 | .no c=>jA hs c
 | .an c d=>jA hs c/\jA hs d
 | .or c d=>jA hs c/\jA hs d
theorem jA.ok{hs:List Str}:∀{c:Cond},jA hs c->c.ok hs
 | .less a b,h=>by
  refine(?_,?_)
  .cases a with
   | nm s=>exact h.1
   | nu i=>trivial
  .cases b with
   | nm s=>exact h.2
   | nu i=>trivial
 | .same a b,h=>by
  refine(?_,?_)
  .cases a with
   | nm s=>exact h.1
   | nu i=>trivial
  .cases b with
   | nm s=>exact h.2
   | nu i=>trivial
 | .no c,h=>jA.ok (c:=c) h
 | .an c d,h=>(jA.ok h.1,jA.ok h.2)
 | .or c d,h=>(jA.ok h.1,jA.ok h.2)
def okQ(th:Str->List Str):Qn->Prop
 | .table n=>n∈tabs
 | .pick c q=>jA (ze th q) c/\c.size<=6/\okQ th q
 | .cols ns q=>ns≠ []/\ns.Nodup/\(∀n∈ns,n∈ze th q)/\okQ th q
 | .pair q r=>(∀n∈ze th q,n∉ze th r)/\okQ th q/\okQ th r
 | .join a b q r=>a∈ze th q/\b∈ze th r/\(∀n∈ze th q,n∉ze th r)/\okQ th q/\okQ th r
 | .both q r=>ze th q=ze th r/\okQ th q/\okQ th r
 | .first n q=>n∈z0t/\okQ th q
 | .group a b n s q=>a∈ze th q/\b∈ze th q/\(∃g∈signs,n=("n":Str)++g/\s=("s":Str)++g)/\a≠n/\a≠s/\okQ th q
 | .sort a q=>a∈ze th q/\okQ th q
noncomputable def depth:Qn->Nat
 | .table _=>1
 | .pick _ q=>depth q+1
 | .cols _ q=>depth q+1
 | .pair q r=>max (depth q) (depth r)+1
 | .join _ _ q r=>max (depth q) (depth r)+1
 | .both q r=>max (depth q) (depth r)+1
 | .first _ q=>depth q+1
 | .group _ _ _ _ q=>depth q+1
 | .sort _ q=>depth q+1
structure TabOk(th:Str->List Str)(tr:Str->List (List Int)):Prop where
 t:∃m,2<=m/\m<=12/\th "t"=je.take m
 w:th "tuvtuvtuvw"=z2U
 x:th "tuvtuvtuvx"=(["e"]:List Str)
 z:th "tuvz"=th "t"
 rl:∀n∈tabs,∀r∈tr n,r.length=(th n).length
 ct:(tr "t").length<=60
 cw:(tr "tuvtuvtuvw").length<=10
 cx:(tr "tuvtuvtuvx").length<=10
 cz:(tr "tuvz").length=3
theorem z8V:je.Nodup:=by decide
theorem zg6:∀g∈signs,(("n":Str)++g:Str)≠(("s":Str)++g:Str):=by decide
section
variable{th:Str->List Str}{tr:Str->List (List Int)}
theorem TabOk.hd(T:TabOk th tr):∀n∈tabs,th n≠ []/\(th n).Nodup:=by
 obtain⟨m,a,b,e⟩:=T.t;have ht:th "t"≠ []/\(th "t").Nodup:=by
  rw[e];refine(λz=>?_,z8V.sublist (List.take_sublist _ _));have:=Qd List.length z;rw[wV]at this;simp[je]at this
  lia
 intro n hn;simp only[tabs,wL,qA,QQ]at hn;rcases hn with rfl|rfl|rfl|rfl
 .exact ht
 .rw [T.w];exact(by decide,by decide)
 .rw [T.x];exact(by decide,by decide)
 .rw [T.z];exact ht
theorem jz(T:TabOk th tr):∀{q:Qn},okQ th q->ze th q≠ []/\(ze th q).Nodup
 | .table n,h=>T.hd n h
 | .pick _ q,h=>jz T (q:=q) h.2.2
 | .cols ns q,h=>(h.1,h.2.1)
 | .pair q r,h=>by
  have h1:=jz T (q:=q) h.2.1;have h2:=jz T (q:=r) h.2.2;refine(by show _++_≠_;simp[h1.1],w04.mpr (h1.2,h2.2,λa ha b c e=>h.1 a ha (e ▸ c)))
 | .join a b q r,h=>by
  have h1:=jz T (q:=q) h.2.2.2.1;have h2:=jz T (q:=r) h.2.2.2.2;refine(by show _++_≠_;simp[h1.1],w04.mpr (h1.2,h2.2,λa ha b c e=>h.2.2.1 a ha (e ▸ c)))
 | .both q r,h=>jz T (q:=q) h.2.1
 | .first _ q,h=>jz T (q:=q) h.2
 | .group a b n s q,h=>by
  obtain⟨_,_,⟨g,d,rfl,rfl⟩,h1,h2,_⟩:=h;refine(by show [_,_,_]≠ [];simp,?_)
  show List.Nodup [a,_,_]
  simp[h1,h2,zg6 g d]
 | .sort _ q,h=>jz T (q:=q) h.2
theorem z2z{xs ys:List (List Int)}{z:List Int}(h:z∈pairs xs ys):∃x∈xs,∃y∈ys,z=x++y:=by
 obtain⟨x,a,h⟩:=List.mem_flatMap.mp h;obtain⟨y,b,e⟩:=qx.mp h;exact(x,a,y,b,e.symm)
theorem z6i{s:Nat}{rows:List (List Int)}{r:List Int}(h:r∈ke s rows):r∈rows:=by
 obtain⟨i,hi,e⟩:=qx.mp h;have hl:=Qm.mp ((z0U _ _).mem_iff.mp hi);rw[<-e,wn,we hl];exact wz hl
theorem jG(T:TabOk th tr):∀{q:Qn},okQ th q->∀r∈rowsOf th tr q,r.length=(ze th q).length
 | .table n,h=>λr m=>T.rl n h r m
 | .pick c q,h=>λr m=>jG T (q:=q) h.2.2 r (Qr.mp m).1
 | .cols ns q,h=>λr m=>by
  obtain⟨x,_,rfl⟩:=qx.mp m;rw[w9];rfl
 | .pair q s,h=>λr m=>by
  obtain⟨x,d,y,e,rfl⟩:=z2z m
  show _=(ze th q++ze th s).length
  rw[wm,wm,jG T (q:=q) h.2.1 x d,jG T (q:=s) h.2.2 y e]
 | .join a b q s,h=>λr m=>by
  obtain⟨x,d,y,e,rfl⟩:=z2z (Qr.mp m).1
  show _=(ze th q++ze th s).length
  rw[wm,wm,jG T (q:=q) h.2.2.2.1 x d,jG T (q:=s) h.2.2.2.2 y e]
 | .both q s,h=>λr m=>by
  rcases wE.mp m with m|m
  .exact jG T (q:=q) h.2.1 r m
  .have:=jG T (q:=s) h.2.2 r m;rw[<-h.1]at this;exact this
 | .first n q,h=>λr m=>jG T (q:=q) h.2 r (QG m)
 | .group a b n s q,h=>λr m=>by
  obtain⟨x,_,rfl⟩:=qx.mp m
  rfl
 | .sort a q,h=>λr m=>jG T (q:=q) h.2 r (z6i m)
end
end Qs
namespace Qs
open PySem L2 Cn Rw
theorem z7F:∀s∈je,s.length<=10:=by decide
theorem zgD:∀s∈z2U,s.length<=10:=by decide
theorem zgA:∀s∈(["e"]:List Str),s.length<=10:=by decide
theorem z3j:∀g∈signs,(("n":Str)++g:Str).length<=10/\(("s":Str)++g:Str).length<=10/\g.length=1:=by decide
variable{th:Str->List Str}{tr:Str->List (List Int)}
theorem z5E(T:TabOk th tr):∀n∈tabs,∀s∈th n,s.length<=10:=by
 obtain⟨m,a,b,e⟩:=T.t;have ht:∀s∈th "t",s.length<=10:=by
  rw[e];exact λs hs=>z7F s (QG hs)
 intro n hn;simp only[tabs,wL,qA,QQ]at hn;rcases hn with rfl|rfl|rfl|rfl
 .exact ht
 .rw [T.w];exact zgD
 .rw [T.x];exact zgA
 .rw [T.z];exact ht
theorem ja(T:TabOk th tr):∀{q:Qn},okQ th q->∀s∈ze th q,s.length<=10
 | .table n,h=>z5E T n h
 | .pick _ q,h=>ja T (q:=q) h.2.2
 | .cols ns q,h=>λs hs=>ja T (q:=q) h.2.2.2 s (h.2.2.1 s hs)
 | .pair q r,h=>λs hs=>by
  rcases wE.mp hs with hs|hs
  .exact ja T (q:=q) h.2.1 s hs
  .exact ja T (q:=r) h.2.2 s hs
 | .join a b q r,h=>λs hs=>by
  rcases wE.mp hs with hs|hs
  .exact ja T (q:=q) h.2.2.2.1 s hs
  .exact ja T (q:=r) h.2.2.2.2 s hs
 | .both q r,h=>ja T (q:=q) h.2.1
 | .first _ q,h=>ja T (q:=q) h.2
 | .group a b n s q,h=>λx e=>by
  obtain⟨ha,_,⟨g,d,rfl,rfl⟩,_,_,hq⟩:=h;have c:x∈ [a,("n":Str)++g,("s":Str)++g]:=e;simp only[wL,qA,QQ]at c;rcases c with rfl|rfl|rfl
  .exact ja T (q:=q) hq _ ha
  .exact(z3j g d).1
  .exact(z3j g d).2.1
 | .sort _ q,h=>ja T (q:=q) h.2
inductive StAt (th:Str->List Str) (tr:Str->List (List Int)) (H:Hp) (v:V) (q:Qn):Prop
 | mk:∀(p:Addr) (qv:V) (hp rp:Addr) (rs:List (Addr×List Int)),v= .ref p->H p=some (.tup [qv,.str (zy q),.ref hp,.ref rp])->QAt H q qv->H hp=some (.lst ((ze th q).map V.str))->RowsAt H rp rs->rs.map (·.2)=rowsOf th tr q->StAt th tr H v q
theorem StAt.same{H H':Hp}{v:V}{q:Qn}(h:StAt th tr H v q)(e:zw H H'):StAt th tr H' v q:=by
 obtain⟨p,qv,hp,rp,rs,rfl,h1,h2,a,b,c⟩:=h;exact(p,qv,hp,rp,rs,rfl,e _ _ h1,h2.same e,e _ _ a,b.same e,c)
end Qs

namespace L2
open PySem PySem.Spec PyProof.Rows
variable{P:Program}{w:World}{x:Str}{f:Addr}{fd:FuncData}{sp:Sp}
section
variable{K:W.Frag}{mg:Str->Option Value}{base:Heap}
theorem Fun.okC{qual:Str}{st:Stmt}{N ps:List Str}{k:Nat}(F:Fun K x qual st f fd)(S:FnScope N ps (zi st))(len:∀vs H Q E,sp vs H Q E->vs.length=ps.length)
  (a:∀(A:Around) (outer:List Env) (s:Shared) (H:Hp) (vs:List V) (Q:VK) (E:XK),Room k (A.deeper (envOfC qual (zi st) s.heap.objs.size f fd.code))->sp vs H Q E->
   ∃t,PSs (z3k CX0 P w K mg base N qual (zi st) f fd.code A outer s H E).nox (jO st) t/\t {nx:=λv H'=>Q .non H',rt:=Q} (start N vs) H):FnOk P w K mg base CX0 (k+1) f fd ps sp:=by
 obtain⟨oc,od,kV,aQ,pm,an,aa,ct,cK,rfl,c,d⟩:=F.ex;refine zez c d S len λA outer s H vs Q E hr b=>?_
 obtain⟨t,h,q⟩:=a A outer s H vs Q E hr b;exact(t,h.nox,q)
end
variable{X:Cx}{pins:List (Addr×Obj)}{H:Hp}{s:Shared}
section
variable{σ:St}
theorem Inv.adopt{D:Addr}{o:HO}(I:Inv X pins σ H s)(hn:H D=none)(f:D≠X.env.locals)(h1:X.s₀.heap.objs.size<=D)(h2:∀x c,X.env.cells.lookup x=some c->c≠D)(d:∀p∈X.pn++pins,p.1≠D)
  (new:jk X.prog X.w (upd H D o) s.heap D o):Inv X pins σ (upd H D o) s:=by
 have r:=I.step (h':=s.heap) (H':=upd H D o) (g':=s.gens) (t':=s.toks) (d':=s.drawn) (ch:= [D]) (λb a=>?_) (λb o t t t e t=>e) (λb o t t t e t=>(o.slots,e))
  (λb o hc e n=>by rw[zj (by simpa using hc)];exact n) (λb o t e=>(o,e)) (λb xs e=>by rw[zj (zq e hn)];exact e) (λb o u e=>by rw[zj (zq e hn)];exact e)
  (λb ps e=>(#[],by rw[zj (zq e hn),e];simp)) (λm hm=>hm) (λb u e=>?_) I.bare
 .exact r
 .have e:b=D:=by simpa using a
  subst e;exact(.inr h1,f,h2,d)
 .by_cases a:b=D
  .subst a;rw[zh]at e;cases e;exact new
  .rw [zj a]at e;exact(I.hok b u e).stay (λc v t q=>q) (λc q=>by rw[zj (zq q hn)];exact q) λc xs q=>by rw[zj (zq q hn)];exact q
end
def z5a(H:Hp)(T:Addr)(lp:Pos)(q:Str)(c:Addr):Prop:=
 H T=some (.tbl #[rawInt lp.line,rawInt lp.col,.ref c])/\∃oc vs t,H c=some (.frz oc (.own 0))/\oc.data= .fields vs/\vs[1]? =some (.str q t)
def jN(H:Hp)(T:Addr)(lp:Pos)(q:Str):Prop:=H T=some (.tbl #[])\/∃c,z5a H T lp q c
variable{T:Addr}{lp:Pos}{q:Str}
theorem jN.ne{a:Addr}{u:HO}(h:jN H T lp q)(e:H a=some u)(b:∀ps,u≠ .tbl ps):a≠T:=by
 rintro rfl;rcases h with h|⟨c,h,_⟩
 .rw [h]at e;cases e;exact b _ rfl
 .rw [h]at e;cases e;exact b _ rfl
theorem jN.same{H':Hp}(h:jN H T lp q)(k:zw H H'):jN H' T lp q:=by
 rcases h with h|⟨c,h,oc,vs,t,h2,a⟩
 .exact .inl (k _ _ h)
 .exact .inr (c,k _ _ h,oc,vs,t,k _ _ h2,a)
variable{h:Heap}{c:Addr}
theorem z5a.rec(x:z5a H T lp q c)(ok:HOk P w H h):h.CodeRec (.ref c) q:=by
 obtain⟨_,oc,vs,t,h2,a,b⟩:=x;obtain⟨e,_⟩:=ok c _ h2;exact(c,oc,vs,t,rfl,e,a,b)
variable{A:Around}{E Q:Value->Shared->Prop}{params:Arguments}{body:Expr}{scope:Scope}
section
variable{σ:St}
noncomputable abbrev z3L(X:Cx)(params:Arguments)(body:Expr)(scope:Scope)(pm:Value)(c:Addr)(ct:Value):Obj:=
 PySem.W.kla_obj "<lambda>" (X.env.qual ++ "<lambda>") params body scope (yP X.env scope.names []) pm c ct
theorem z7k(I:Inv X pins σ H s)(hc:X.env.code= .ref c)(C:PySem.W.CodeHd X.base c T)(B:X.base.BuiltinsAt X.mg T)
  (hL:jN H T lp (X.env.qual ++ "<lambda>")) (dX:defaultsOf params X.env=([],[])) (clo:∀y∈scope.names,y.2= .free->X.env.kindOf y.1=some .cell\/X.env.kindOf y.1=some .free)
  (h:∀f c' ct pm H' s',Kp T H H'->z5a H' T lp (X.env.qual ++ "<lambda>") c'->Inv X (pins++[(f,z3L X params body scope pm c' ct)]) σ H' s'->Q (.ref f) s'):
  wpAny (model X.prog X.w) A (eval (.Lambda params body scope lp) X.env) Q E s:=by
 have J:∀y∈scope.names,y.2= .free->∃c,X.env.cells.lookup y.1=some c:=λy U G=>I.ok.has y.1 (clo y U G)
 have M:s.heap.Ns mainGlobals X.mg:=by
  obtain⟨o,es,ep,e,r⟩:=I.mod.glob;exact(o,es,ep,I.bk _ _ e,r)
 have P:s.heap.BuiltinsAt X.mg T:=by
  obtain⟨bm,o,b1,b2,b3,b4,b5,b6⟩:=B;exact(bm,o,b1,b2,b3,b4,I.bk _ _ b5,b6)
 refine PySem.W.kla_eval dX ?_;rcases hL with a|⟨c',a,oc,vs,t,h2,S,h4⟩
 .have D:s.heap.get? T=some (PySem.W.tabObj #[]):=I.hok T _ a;have xW:mainGlobals≠T:=λz=>by
   obtain⟨o,es,ep,e,r⟩:=I.mod.glob;have:=(I.bs _ _ e).2;rw[z,a]at this;cases this
  refine PySem.W.kla_makeFunction (ps:= #[]) (z04 J) I.ok.glob M hc (C.keeps I.bk) D trivial rfl xW P λc' ct h' tk hx j K gG F=>?_
  obtain⟨c2,oc,vs,t,e2,O,hd,R⟩:=gG;cases e2;have nc:H c'=none:=I.hok.fresh j;have N:c'≠T:=λz=>by rw[z,a]at nc;cases nc
  have L:h'.get? T=some (PySem.W.tabObj #[rawInt lp.line,rawInt lp.col,.ref c']):=by simpa using F
  have ne:∀b u,H b=some u->b≠c':=λb u e=>zq e nc
  have up:∀b o,b≠T->s.heap.get? b=some o->(h'.push (z3L X params body scope ((X.mg "__name__").getD .none) c' ct)).get? b=some o:=λb o n e=>wu _ (hx b o n e)
  have i:∀b,b≠T->b≠c'->upd (upd H c' (.frz oc (.own 0))) T (.tbl #[rawInt lp.line,rawInt lp.col,.ref c']) b=H b:=λb Y n2=>by rw[zj Y,zj n2]
  have x:∀b u,H b=some u->(∀ps,u≠ .tbl ps)->b≠T:=λb u e Z z=>by rw[z,a]at e;cases e;exact Z _ rfl
  have l:Inv X pins σ (upd (upd H c' (.frz oc (.own 0))) T (.tbl #[rawInt lp.line,rawInt lp.col,.ref c'])) {s with heap:=h'.push (z3L X params body scope ((X.mg "__name__").getD .none) c' ct),toks:=tk}:=by
   refine I.un (λb o e n m m=>up b o (λz=>by rw[z,a]at n;cases n) e,λb o e n m m=>(o.slots,up b o (λz=>by rw[z,a]at n;cases n) e),λb o e n m=>?_,λb o e m=>?_,λb xs e=>?_,λb o u e=>?_,λb ps e=>?_) λb u e=>?_
   .rw [i b (λz=>by rw[z,a]at n;cases n) (qc (wT (wQ e) j))];exact n
   .by_cases hb:b=T
    .exact(_,wu _ (hb ▸ L))
    .exact(o,up b o hb e)
   .rw [i b (x b _ e λps z=>by cases z) (ne b _ e)];exact e
   .rw [i b (x b _ e λps z=>by cases z) (ne b _ e)];exact e
   .by_cases hb:b=T
    .rw [hb,a]at e;cases e;rw[hb];exact(#[rawInt lp.line,rawInt lp.col,.ref c'],by rw[zh];simp)
    .exact(#[],by rw[i b hb (ne b _ e),e];simp)
   .by_cases hb:b=T
    .rw [hb]at e ⊢;rw[zh]at e;cases e;exact wu _ L
    .by_cases fB:b=c'
     .rw [fB]at e ⊢;rw[zj N,zh]at e;cases e;exact(wu _ O,oc,wu _ O)
     .rw [i b hb fB]at e;refine(I.hok b u e).stay (λd v hd q=>up d v ?_ q) (λd q=>?_) λd xs q=>?_
      .rcases hd with hd|hd
       .rw [hd];exact hb
       .exact x d _ hd λps z=>by cases z
      .rw [i d (x d _ q λps z=>by cases z) (ne d _ q)];exact q
      .rw [i d (x d _ q λps z=>by cases z) (ne d _ q)];exact q
  have hsz:s.heap.objs.size<=h'.objs.size:=w1D (Nat.lt_of_le_of_lt j K);have iX:T<s.heap.objs.size:=wQ D;refine h h'.objs.size c' ct ((X.mg "__name__").getD .none) _ _ (λb o n e=>by rw[i b n (ne b _ e)];exact e) (zh,oc,vs,t,by rw[zj N,zh],hd,R) (l.pins_of λp hp=>?_);rcases wE.mp hp with hp|hp
  .exact l.pin p (wC _ hp)
  .rw [ww.mp hp];refine(qh _ rfl,?_,QL (wT I.lt hsz),I.nofs hsz,λv z=>by cases z)
   show upd (upd H c' (.frz oc (.own 0))) T (.tbl #[rawInt lp.line,rawInt lp.col,.ref c']) h'.objs.size=none
   rw[i _ (QL (wT iX hsz)) (QL K)];exact I.hok.fresh hsz
 .have D:s.heap.get? T=some (PySem.W.tabObj #[rawInt lp.line,rawInt lp.col,.ref c']):=I.hok T _ a;refine PySem.W.kla_makeFunctionHit (ps:= #[rawInt lp.line,rawInt lp.col,.ref c']) (cv:= .ref c') (z04 J) I.ok.glob M hc (C.keeps I.bk) D (by simp[TriplesOk,rawInt]) (by simp[codeAmong,rawInt]) P λct h' tk G hsz=>?_
  have l:Inv X pins σ H {s with heap:=h'.push (z3L X params body scope ((X.mg "__name__").getD .none) c' ct),toks:=tk}:=I.kept λb o e=>wu _ (G b o e)
  refine h h'.objs.size c' ct ((X.mg "__name__").getD .none) H _ Kp.refl (a,oc,vs,t,h2,S,h4) (l.pins_of λp hp=>?_);rcases wE.mp hp with hp|hp
  .exact l.pin p (wC _ hp)
  .rw [ww.mp hp];exact(qh _ rfl,I.hok.fresh hsz,QL (wT I.lt hsz),I.nofs hsz,λv z=>by cases z)
end
noncomputable abbrev z9N(X:Cx)(A:Around)(scope:Scope)(N:List Str)(f:Addr)(cd:Value)(s:Shared)(H:Hp):Cx:=
 {prog:=X.prog,w:=X.w,K:=X.K,mg:=X.mg,base:=X.base,A:=A.deeper (PySem.W.envX (X.env.qual ++ "<lambda>") scope s.heap.objs.size f cd (yP X.env scope.names [])),N:=N,s₀:=s,H₀:=H,
  env:=PySem.W.envX (X.env.qual ++ "<lambda>") scope s.heap.objs.size f cd (yP X.env scope.names []),outer:=X.stack,
  stack:=PySem.W.envX (X.env.qual ++ "<lambda>") scope s.heap.objs.size f cd (yP X.env scope.names [])::X.stack,ex:= [],fn:=λv=>false,calm:=true,pn:= [],xe:=λv v=>False}
variable{fr:List Str}{ix:List Nat}{cd:Value}
section
variable{σ:St}
theorem zb6{v:V}{u:Value}{h1:Heap}{tk:Nat}(I:Inv X pins σ H s)(S:CompSc X scope x fr ix)(O:scope.names.lookup x=some .local)(D:∀y∈scope.names,y.2≠ .cell)(C:A.frames=some X.stack)(K:A.handled=none)(r:RelV v u)
  (Q:h1.Ns s.heap.objs.size (λy=> [(x,u)].reverse.lookup y)) (d:∀b o,s.heap.get? b=some o->h1.get? b=some o):
  Inv (z9N X A scope (x::fr) f cd s H) [] (sub σ ix (some v)) H {s with heap:=h1,toks:=tk}:=by
 have a:=I.env0;have G:∀y∈scope.names,y.2= .free->∃c,X.env.cells.lookup y.1=some c:=λy hy d=>I.ok.has y.1 (S.clo y hy d)
 have look:∀y c,(yP X.env scope.names []).lookup y=some c->X.env.cells.lookup y=some c:=λy c e=>z2y scope.names [] G (λy c e=>by simp at e) y c e
 have l:∀b:Addr,b∉(z9N X A scope (x::fr) f cd s H).ex:=λb z=>absurd (show b∈([]:List Addr)from z) (by simp)
 refine((a.mod,S.kind,rfl,rfl,wA _,λy z c h1 h2=>I.ok.inj y z c (look y c h1) (look z c h2),λy hy=>?_,λy c z g=>absurd z wU,λg=>K,Around.frames_deeper C,.inr (rfl,rfl),λb z=>absurd z (l b),a.bs,a.bsz,λb g g=>l b,λb z=>absurd z (l b),a.funs,a.frf),
  rfl,a.bare,Un.kept d,(_,Q,λi y v' h1 h2 T=>?_),λy c h=>?_,I.hok.fresh (wA _),λy c h=>I.freeC y c (look y c h),λp hp=>absurd (show p∈([]:List (Addr×Obj))from hp) (by simp),I.hok.kept d,?_)
 .have hy:scope.names.lookup y=some .cell\/scope.names.lookup y=some .free:=hy;rcases hy with hy|hy
  .exact absurd rfl (D _ (Q2 hy))
  .exact z3f scope.names [] y (.inl (Q2 hy))
 .cases i with
  | zero=>
   have R:x=y:=Option.some.inj h1;have F:some v=some v':=Option.some.inj h2;cases F;subst R;exact(u,r,.inl (O,by simp))
  | succ k=>
   have N:fr[k]? =some y:=h1;obtain⟨j,E,J,n⟩:=S.free k y N;have t:(ix.map λj=>(σ[j]?).getD none)[k]? =some (some v'):=h2;rw[wM,E]at t;have hσ:(σ[j]?).getD none=some v':=Option.some.inj t;have hσ':σ[j]? =some (some v'):=by
    cases q:σ[j]? with
    | none=>rw[q]at hσ;cases hσ
    | some o=>rw[q]at hσ;exact Qd some hσ
   have B:=S.clo (y,.free) (Q2 n) rfl;obtain⟨m,hn,hl⟩:=I.loc;obtain⟨L,M,P⟩:=hl j y v' J hσ' (by
    rcases B with q|q
    .exact .inr (.inl q)
    .exact .inr (.inr q))
   refine(L,M,.inr (.inr n,?_));obtain⟨c,hc⟩:=z3f (env:=X.env) scope.names [] y (.inl (Q2 n));refine(c,hc,?_);rcases P with⟨q,_⟩|⟨_,c',e',z⟩
   .have q':X.env.kindOf y=some .local:=q;rcases B with z|z
    .rw [q']at z;cases z
    .rw [q']at z;cases z
   .rw [look y c hc]at e';cases e';exact z.keeps d
 .obtain⟨w,z⟩:=I.cell y c (look y c h);exact(w,z.keeps d)
 .show(sub σ ix (some v)).length=(x::fr).length
  unfold sub;rw[wP,w9,wP,S.len]
theorem zcf{pm ct u:Value}{v:V}{tb:TE}{Q:VK}(I:Inv X pins σ H s)(K:(f,z3L X params body scope pm c ct)∈pins)(O:s.heap.CodeRec (.ref c) (X.env.qual ++ "<lambda>"))
  (S:CompSc X scope x fr ix) (i:scope.names.lookup x=some .local) (d:∀y∈scope.names,y.2≠ .cell) (l:scope.isCoroutine=false) (F:scope.isGenerator=false) (j:A.frames=some X.stack) (t:A.handled=none) (M:A.depth<recursionLimit)
  (N:bindArgs (PySem.W.kla_fn "<lambda>" (X.env.qual ++ "<lambda>") params body scope (yP X.env scope.names []) pm (.ref c) ct) ([u],[])=pure [(x,u)])
  (G:∀A f cd s H,PE (z9N X A scope (x::fr) f cd s H) body tb) (r:RelV v u) (h:tb (sub σ ix (some v)) H Q):wpAny (model X.prog X.w) A (call (.ref f) [u]) (EP X pins σ Q) E s:=by
 have L:s.heap.NoLimit:=I.nolimit;have B:codeAny (model X.prog X.w) A (.call (.ref f) ([u],[])) (λr s'=>∃w,r= .ok (.ret w)/\CE X.stack X.prog X.w H s Q w s') s:=by
  refine PySem.W.kla_callFunE M (I.pin _ (wC _ K)).1 rfl l F rfl O ?_;rw[N];refine q9 (wpAny_newFunctionEnv d (λy n=>?_) (λh1 P a=>(?_,?_)) S.kind)
  .rw [ww.mp n];exact i
  .exact L.fresh _ a
  .have D:∀b o,s.heap.get? b=some o->h1.get? b=some o:=λb o e=>a.extBut b o (qc (wQ e)) (wu _ e)
   have p:=zb6 (f:=f) (cd:= .ref c) (tk:=s.toks+1) I S i d j t r P D
   show codeAny _ _ (.expr body (PySem.W.envX (X.env.qual ++ "<lambda>") scope s.heap.objs.size f (.ref c) (yP X.env scope.names []))) _ _
   refine PySem.W.kla_codeExpr (Qa (G A f (.ref c) s H [] _ _ H Q p h) (λw s' hq=>?_) λm m z=>z.elim);obtain⟨y,H',J,C,q⟩:=hq;exact(w,rfl,y,H',J.os,J.bare,J.base,J.hok,C,q)
 refine w1Q (w0n B λr s' hq=>?_);obtain⟨w,rfl,hq⟩:=hq;exact I.after hq
end
theorem z64{M:Model}{A:Around}{E:Value->Shared->Prop}{vs:List Value}{body:Value->PUnit->Sem (ForInStep PUnit)}{J:List Value->Shared->Prop}
  (c:∀i x ks s,vs[i]? =some x->ks.length=i->J ks s->wpAny M A (body x ⟨⟩) (λr s'=>r= .yield ⟨⟩/\∃k,J (ks++[k]) s') E s):
  ∀(r ks:List Value) (s:Shared),(∀j x,r[j]? =some x->vs[ks.length+j]? =some x)->J ks s->wpAny M A (forIn r PUnit.unit body) (λv s'=>∃a,a.length=ks.length+r.length/\J a s') E s
 | [],ks,s,_,b=>by
  rw[List.forIn_nil];exact q9 (ks,by simp,b)
 | x::r,ks,s,hr,b=>by
  rw[List.forIn_cons];refine wD (Qa (c ks.length x ks s (hr 0 x rfl) rfl b) (λq s' hq=>?_) λv v x=>x);obtain⟨rfl,k,h2⟩:=hq
  show wpAny M A (forIn r PUnit.unit body) _ E s'
  refine Qa (z64 c r (ks++[k]) s' (λj y d=>?_) h2) (λ_ s2 ⟨a,e,q⟩=>(a,?_,q)) λv v x=>x
  .rw [wm,wJ,Nat.add_assoc,Nat.add_comm 1 j];exact hr (j+1) y d
  .rw [e,wm,wP,wP,QN]
   lia
variable{xs:List V}{vs:List Value}
section
variable{σ:St}
theorem z9p(a:zM xs vs){i:Nat}(h:i<xs.length):RelV (xs.getD i .non) (vs.getD i Value.none):=by
 obtain⟨u,e,r⟩:=a.get (we h);rw[wn,we h,wn,e];exact r
def z5K{xs:List V}{vs:List Value}(b:zM xs vs):∀{a:List Nat},(∀j∈a,j<xs.length)->zM (a.map λi=>xs.getD i .non) (a.map λi=>vs.getD i Value.none)
 | [],_=> .nil
 | j::a,h=> .cons (z9p b (h j qy)) (z5K b λm hm=>h m (wZ _ hm))
theorem z8R{l:Addr}{kz:List Int}(I:Inv X pins σ H s)(hl:s.heap.IsList l vs.toArray)(rv:zM xs vs)(iu:vs.length<64)(ua:kz.length=vs.length)
  (hc:∀(i:Nat) (u:Value) (pl:List (Addr×Obj)) (s':Shared),vs[i]? =some u->Inv X (pins++pl) σ H s'->
   wpAny (model X.prog X.w) X.A.in1.in1 (call (.ref f) [u]) (λw s2=>(∃t,w= .int (kz.getD i 0) t)/\Inv X (pins++pl) σ H s2) (λg g=>False) s')
  (h:∀(D:Addr) (is:List Nat) (s':Shared),H D=none->is.Perm (List.range vs.length)->is.Pairwise (Rk λi=>kz.getD i 0)->Inv X pins σ (upd H D (.lst (is.map λi=>xs.getD i .non))) s'->Q (.ref D) s'):
  wpAny (model X.prog X.w) X.A (call (.builtin "sorted") [.ref l] [(Str.ofString "key",.ref f)]) Q E s:=by
 have hlen:=rv.length;refine call_function_entry_kw kind_sorted plain_sorted entry_sorted (ksk_s1 _ _) ?_;unfold Builtin.«sorted»;refine wD (m:=checkCount "sorted" 1 1 _) (q9 ?_);refine wD (collect_list hl ?_ (by rw[Qq];lia));refine wD (wpAny_newList ?_ (by rw[Qq];lia));obtain⟨h1,iA⟩:∃h1,(s.heap.push (seqObj "list" #[] 0)).update s.heap.objs.size (Obj.mapSeq (·++vs.toArray))=h1:=(_,rfl)
 have kp1:∀b o,s.heap.get? b=some o->h1.get? b=some o:=λb o e=>by
  have B:=wQ e;rw[<-iA,w1y _ _ _ _ (qc B)];exact wu _ e
 have r:s.heap.objs.size<=h1.objs.size:=by rw[<-iA,Heap.size_update,Qo];lia
 rw[iA];have P:(h1.push (seqObj "list" vs.toArray 0)).get? h1.objs.size=some (seqObj "list" vs.toArray 0):=qh _ rfl;generalize hD:h1.objs.size=D at P r ⊢;have Z:H D=none:=I.hok.fresh r;have DL:D≠X.env.locals:=QL (wT I.lt r);have Ds:X.s₀.heap.objs.size<=D:=wY I.sz r;have Dc:∀y c,X.env.cells.lookup y=some c->c≠D:=λy c e=>by
  obtain⟨v,q⟩:=I.cell y c e;exact qc (wT q.lt r)
 have Dp:∀p∈X.pn++pins,p.1≠D:=λp hp=>qc (wT (wQ (I.pin p hp).1) r)
 refine wD (QO (wpAny_call_entry_kw slot_list_sort (_,P,rfl) entry_list_sort ?body (ksk_l1 _ _)))
 case body=>
 show wpAny (model X.prog X.w) X.A.in1.in1 (Builtin.«list.sort» ([.ref D],[(Str.ofString "key",.ref f)])) _ _ _
 rw[ksk_t1];unfold ksk_tree;refine wD (listItems_at P rfl ?_);refine wD (w1m P rfl ?_ (by rw[wB,Qq];lia) (qU _));obtain⟨d,Y⟩:∃d,((h1.push (seqObj "list" vs.toArray 0)).update D (Obj.mapSeq λg=>(#[]:Array Value))).get? D=some (seqObj "list" #[] d):=(_,get?_update_seq P λg=> #[])
 obtain⟨h2,ub⟩:∃h2,(h1.push (seqObj "list" vs.toArray 0)).update D (Obj.mapSeq λg=>(#[]:Array Value))=h2:=(_,rfl)
 have kp2:∀b o,s.heap.get? b=some o->h2.get? b=some o:=λb o e=>by
  rw[<-ub,w1y _ _ _ _ (qc (wT (wQ e) r))];exact wu _ (kp1 b o e)
 rw[ub]at Y ⊢;refine wD (seqEpoch_at Y rfl ?_);refine wD (wpAny_newTuple ?_ (by show vs.length<=_;rw[Qq];lia));refine wD (wpAny_newList ?_ (qU _));refine QO ?_;obtain⟨L,pA⟩:∃L,(h2.push (seqObj "tuple" vs.toArray 0)).push (seqObj "list" #[] 0)=L:=(_,rfl)
 obtain⟨a,pB⟩:∃a,(h2.push (seqObj "tuple" vs.toArray 0)).objs.size=a:=(_,rfl)
 have kp3:∀b o,h2.get? b=some o->L.get? b=some o:=λb o e=>by
  rw[<-pA];exact wu _ (wu _ e)
 have xX:L.get? a=some (seqObj "list" #[] 0):=by rw[<-pA,<-pB];exact qh _ rfl
 have pC:D<a:=by rw[<-pB,Qo];exact Qc (wQ Y)
 have F:s.heap.objs.size<=a:=wY r (w1D pC);have R:H a=none:=I.hok.fresh F;have S:a≠X.env.locals:=QL (wT I.lt F);have uc:X.s₀.heap.objs.size<=a:=wY I.sz F;have kc:∀y c,X.env.cells.lookup y=some c->c≠a:=λy c e=>by
  obtain⟨v,q⟩:=I.cell y c e;exact qc (wT q.lt F)
 have pD:∀p∈X.pn++pins,p.1≠a:=λp hp=>qc (wT (wQ (I.pin p hp).1) F)
 show wpAny (model X.prog X.w) X.A.in1.in1 (ksk_rest D (.ref f) false vs.toArray d (.ref (h2.push (seqObj "tuple" vs.toArray 0)).objs.size)) _ _ {s with heap:=(h2.push (seqObj "tuple" vs.toArray 0)).push (seqObj "list" #[] 0)}
 rw[pA,pB];have Nf:∀{b:Addr},s.heap.objs.size<=b->b∉X.fs:=λB=>I.nofs B
 have I3:Inv X (pins++[(a,seqObj "list" ([]:List Value).toArray 0),(D,seqObj "list" #[] d)]) σ H {s with heap:=L}:=(I.kept (t':=s.toks) λb o e=>kp3 b o (kp2 b o e)).pins_of λp hp=>by
  have I3:Inv X pins σ H {s with heap:=L}:=I.kept (t':=s.toks) λb o e=>kp3 b o (kp2 b o e)
  rcases wE.mp hp with hp|hp
  .exact I3.pin p (wC _ hp)
  .rcases wL.mp hp with rfl|hp
   .exact(xX,R,S,Nf F,λv z=>by cases z)
   .rw [ww.mp hp];exact(kp3 _ _ Y,Z,DL,Nf r,λv z=>by cases z)
 unfold ksk_rest;refine wD (wpAny_rule ?_)
 first
  | rw[List.forIn_toArray]
  | (rw[<-Array.forIn_toList];simp only[List.toList_toArray])
  | rw[<-Array.forIn_toList]
 refine wD (Qa (z64 (vs:=vs) (J:=λks s'=>ks.length<=vs.length/\zM ((kz.take ks.length).map V.int) ks/\∃e,Inv X (pins++[(a,seqObj "list" ks.toArray e),(D,seqObj "list" #[] d)]) σ H s') (λi x ks s' hx hi hJ=>?_) vs [] _ (λj y O=>by simpa using O) (qU _,.nil,0,I3)) (λg s' hq=>?_) λg g x=>x)
 .obtain⟨iz,K,e,J⟩:=hJ;have xY:i<vs.length:=(wg.mp hx).1;refine wD (wpAny_attempt (Qa (hc i x _ s' hx J) (λk s2 hk=>?_) λg g hF=>hF.elim));obtain⟨⟨t,rfl⟩,M⟩:=hk;have ud:=(M.pin (a,seqObj "list" ks.toArray e) (by simp)).1;have s1:=Heap.SameBut.update s2.heap a (Obj.mapSeq (·.push (Value.int (kz.getD i 0) t)));have ea:(List.toArray ks).push (Value.int (kz.getD i 0) t)=List.toArray (ks++[Value.int (kz.getD i 0) t]):=by simp
  obtain⟨c2,cY⟩:∃c2,(s2.heap.update a (Obj.mapSeq (·.push (Value.int (kz.getD i 0) t)))).get? a=some (seqObj "list" (List.toArray (ks++[Value.int (kz.getD i 0) t])) c2):=(_,by rw[<-ea];exact get?_update_seq ud (·.push (Value.int (kz.getD i 0) t)))
  try dsimp only
  refine wD (w1m ud rfl ?_ (by rw[wB,Qq];lia) (wY (Nat.le_of_eq (Array.size_push ..)) (by rw[wB,Qq];lia)));refine q9 (rfl,Value.int (kz.getD i 0) t,by rw[wm,wJ];lia,?_,c2,?_)
  .rw [wm,wJ,hi,wR,we (by lia),wF];rw[hi]at K;refine K.append (.cons (t,?_) .nil);rw[wn,we (by lia)]
   rfl
  .have J3:Inv X (pins++[(D,seqObj "list" #[] d)]) σ H s2:=M.pins_of λp hp=>by
    rcases wE.mp hp with hp|hp
    .exact M.pin p (wC _ (q5 _ hp))
    .exact M.pin p (wC _ (wC _ (wZ _ hp)))
   have J4:Inv X (pins++[(D,seqObj "list" #[] d)]) σ H {s2 with heap:=s2.heap.update a (Obj.mapSeq (·.push (Value.int (kz.getD i 0) t)))}:=J3.turned (it:=a) (t':=s2.toks) (λb o B q=>(s1.2 b B).trans q) R S (.inr uc) kc λp hp=>by
    rcases wE.mp hp with hp|hp
    .exact pD p (q5 _ hp)
    .rcases wE.mp hp with hp|hp
     .exact pD p (wC _ hp)
     .rw [ww.mp hp];exact qc pC
   refine J4.pins_of λp hp=>?_
   rcases wE.mp hp with hp|hp
   .exact J4.pin p (wC _ (q5 _ hp))
   .rcases wL.mp hp with rfl|hp
    .exact(cY,R,S,Nf F,λv z=>by cases z)
    .exact J4.pin p (wC _ (wC _ hp))
 .obtain⟨ks,xZ,iz,K,e,J⟩:=hq;have U:ks.length=vs.length:=by simpa using xZ
  rw[U,Q0 (Nat.le_of_eq ua)]at K
  try dsimp only
  have ok:=(J.pin (a,seqObj "list" ks.toArray e) (by simp)).1;have oD:=(J.pin (D,seqObj "list" #[] d) (by simp)).1;refine wD (listItems_at ok rfl ?_);have fin:∀(is:List Nat) (st:SortSt),is.Perm (List.range vs.length)->is.Pairwise (Rk λi=>kz.getD i 0)->(arrOf st).map (·.2)=(is.map λi=>vs.getD i Value.none).toArray->failedOf st=none->
    wpAny (model X.prog X.w) X.A.in1.in1 (ksk_tail D false d (.ref a) st) (λfin s'=>∃v,fin= .done (.ret v)/\wpAny (model X.prog X.w) X.A.in1 (ret (.ref D)) (λfin s'=>∃v,fin= .done (.ret v)/\Q v s') E s') E s':=by
   intro is st pm pw pE hf;have hsz:(is.map λi=>vs.getD i Value.none).length=vs.length:=by rw[w9,pm.length_eq,w0W]
   have t1:=Heap.SameBut.update s'.heap a (Obj.mapSeq λg=>(#[]:Array Value));have pG:(s'.heap.update a (Obj.mapSeq λg=>(#[]:Array Value))).get? D=some (seqObj "list" #[] d):=(t1.2 D (qc pC)).trans oD;have t2:=Heap.SameBut.update (s'.heap.update a (Obj.mapSeq λg=>(#[]:Array Value))) D (Obj.mapSeq λg=>(is.map λi=>vs.getD i Value.none).toArray);obtain⟨c3,nO⟩:∃c3,((s'.heap.update a (Obj.mapSeq λg=>(#[]:Array Value))).update D (Obj.mapSeq λg=>(is.map λi=>vs.getD i Value.none).toArray)).get? D=some (seqObj "list" (is.map λi=>vs.getD i Value.none).toArray c3):=(_,get?_update_seq pG λg=>(is.map λi=>vs.getD i Value.none).toArray)
   unfold ksk_tail
   try dsimp only
   rw[pE];refine wD (w1m ok rfl ?_ (by rw[wB,Qq];lia) (qU _));refine wD (wpAny_letGo ?_);refine wD (seqEpoch_at pG rfl ?_);refine wD (w1m pG rfl ?_ (qU _) (wY (Nat.le_of_eq (by show(is.map λi=>vs.getD i Value.none).toArray.size=vs.length;rw[wB,hsz])) (by rw[Qq];lia)));rw[hf];simp only[bne_self_eq_false,w0h,w0B];refine q9 (_,rfl,q9 (_,rfl,?_));have J0:Inv X pins σ H s':=J.pins_of λp hp=>J.pin p (wC _ (q5 _ hp))
   have J1:Inv X pins σ H {s' with heap:=s'.heap.update a (Obj.mapSeq λg=>(#[]:Array Value))}:=J0.turned (it:=a) (t':=s'.toks) (λb o B q=>(t1.2 b B).trans q) R S (.inr uc) kc pD;have M:Inv X pins σ H {s' with heap:=(s'.heap.update a (Obj.mapSeq λg=>(#[]:Array Value))).update D (Obj.mapSeq λg=>(is.map λi=>vs.getD i Value.none).toArray)}:=Inv.turned (s:={s' with heap:=s'.heap.update a (Obj.mapSeq λg=>(#[]:Array Value))}) (it:=D) J1 (t':=s'.toks) (λb o B q=>(t2.2 b B).trans q) Z DL (.inr Ds) Dc Dp;refine h D is _ Z pm pw (M.adopt Z DL Ds Dc Dp (?_,is.map λi=>vs.getD i Value.none,c3,z5K rv λj O=>?_,nO))
   .rw [w9,pm.length_eq,w0W];exact jb (by lia)
   .rw [hlen];exact Qm.mp (pm.mem_iff.mp O)
  unfold ksk_end
  try dsimp only
  by_cases h2:vs.toArray.size<2
  .have T:vs.length<2:=by simpa using h2
   rw[qd h2,qd h2];simp only[w0h,w0B];refine wD (q9 ?_);rw[StateT.run_pure];refine wD (q9 ?_);refine fin (List.range vs.length) _ (List.Perm.refl _) ?_ ?_ rfl
   .exact zbE T
   .show(ks.toArray.zip vs.toArray).map (·.2)=_
    exact z61 T U
  .have T:2<=vs.length:=by simpa using h2
   rw[wW h2,wW h2,ksk_kind (keys:=ks.toArray) (kz:=kz) (by simpa using intsAre_of K) (by simp;lia)];simp only[w0h,w0B];refine wD (q9 ?_);refine wD (Qa (PySem.W.kat_run (κ:=oneType') (Q:=λN s2=>∃p:Array Nat,(arrOf N).map (·.2)=(p.toList.map λi=>vs.getD i Value.none).toArray/\failedOf N=none/\s2=s'/\p.toList.Perm (List.range vs.length)/\p.toList.Pairwise (Rk λi=>kz.getD i 0))
    (vs:=vs) (ks:=ks) (G:=λp s2=>s2=s'/\p.toList.Perm (List.range vs.length)/\p.toList.Pairwise (Rk λi=>kz.getD i 0)) U T iu (λp N s2 a1 a2 a3 a4=>(p,PySem.W.kat_snds U a2,a3,a4))
    (z90 (n:=vs.length) (k:=λi=>kz.getD i 0) (λi j C hi O hC=>?_) (jY (λp hp=>(rfl,hp)) (z9k (by lia) _)))) ?_ λg g e=>e)
   .unfold PySem.W.kas_ask;have at':∀m,m<vs.length->∃t,ks.getD m Value.none= .int (kz.getD m 0) t:=λm hm=>by
     obtain⟨u,eu,t,rfl⟩:=K.get (i:=m) (x:= .int kz[m]) (by rw[wM,we (by lia)];rfl);refine(t,?_);rw[wn,eu,wn,we (by lia)]
     rfl
    obtain⟨t,d⟩:=at' i hi;obtain⟨u,e2⟩:=at' j O
    show wpAny (model X.prog X.w) X.A.in1.in1 (keyLt' oneType' (ks.getD i Value.none) (ks.getD j Value.none)) C (λg g=>False) s'
    rw[d,e2];exact PySem.W.kat_lt_int hC
   .rintro⟨⟨⟩,N⟩ s2 ⟨p,e0,h4,rfl,pm,pw⟩;exact fin p.toList N pm pw e0 h4
end
theorem jN.neL{K:W.Frag}{P:Program}{w:World}{H:Hp}{T a:Addr}{lp:Pos}{q:Str}{xs:List V}(h:jN H T lp q)(e:Rd H a (.lst xs)):a≠T:=by
 rcases e with e|⟨o,e⟩
 .exact h.ne e λps z=>by cases z
 .exact h.ne e λps z=>by cases z
def zd0(T:Addr)(lp:Pos)(q:Str)(te:TE)(ix:List Nat)(tb:TE):TE:=λσ H Q=>te σ H λx H1=>∃(l:Addr) (xs:List V) (kz:List Int),x= .ref l/\Rd H1 l (.lst xs)/\xs.length<64/\kz.length=xs.length/\jN H1 T lp q/\
 (∀H2,Kp T H1 H2->∀(i:Nat) v,xs[i]? =some v->tb (sub σ ix (some v)) H2 λy H'=>y= .int (kz.getD i 0)/\H'=H2)/\
 ∀(c:Addr) (H2:Hp) (D:Addr) (is:List Nat),Kp T H1 H2->z5a H2 T lp q c->H2 D=none->is.Perm (List.range xs.length)->is.Pairwise (Rk λi=>kz.getD i 0)->Q (.ref D) (upd H2 D (.lst (is.map λi=>xs.getD i .non)))
section
variable{e:Expr}{te tb:TE}{kp p pos:Pos}{k:Nat}
theorem z94(dY:X.calm=true)(hr:Room k X.A)(O:Gl X "sorted")(hm:X.mg "sorted"=none)(he:PE X e te)(hc:X.env.code= .ref c)(C:PySem.W.CodeHd X.base c T)(B:X.base.BuiltinsAt X.mg T)(S:CompSc X scope x fr ix)
  (hb:∀A f cd s H,PE (z9N X A scope (x::fr) f cd s H) body tb)
  (gH:(scope.names.lookup x=some .local)⁻¹) (Z: ~~~(∀y∈scope.names,y.2≠ .cell)) (pz:(scope.isCoroutine=false)⁻¹) (U:(scope.isGenerator=false)⁻¹) (dX:(defaultsOf params X.env=([],[]))⁻¹)
  (aF:∀(pm ct u:Value) (c:Addr),bindArgs (PySem.W.kla_fn "<lambda>" (X.env.qual ++ "<lambda>") params body scope (yP X.env scope.names []) pm (.ref c) ct) ([u],[])=pure [(x,u)]:=by intro _ _ _ _;rfl)
  (hs:(starEach [e] X.env= [(false,eval e X.env)])⁻¹):
  PE X (.Call (.Name "sorted" p) [e] [(some "key",.Lambda params body scope lp,kp)] pos) (zd0 T lp (X.env.qual ++ "<lambda>") te ix tb):=by
 intro pins s σ H Q I h;refine Qw (z1d I O hm PyProof.Rows.boot_sorted ?_ (by decide) (by decide));refine callWith_kw (he:=by rw[hs];rfl) (hplain:=by rw[hs];rfl) (by
  rw[hs];refine Qv (thn (he pins s σ H _ I h) ?_);rintro u s1 ⟨y,H1,M,r1,l,xs,kz,ey,hq,iu,ua,r,N,q⟩;refine w0v ?_;subst ey;cases r1;refine kws_cons ?_;refine z7k M hc C B r dX S.clo λf c' ct pm H2 s2 kp2 G F=>?_
  refine kws_nil ?_;have Y:Rd H2 l (.lst xs):=by
   have n:=r.neL (K:=X.K) (P:=X.prog) (w:=X.w) hq;rcases hq with hq|⟨o,hq⟩
   .exact .inl (kp2 _ _ n hq)
   .exact .inr (o,kp2 _ _ n hq)
  obtain⟨vs,b,pl,hz⟩:=F.list (.inl Y);have hlen:=b.length;refine z8R (kz:=kz) F pl.isList b (by lia) (by lia) (λi u ac R j J=>?_) λD is R nD a pw J=>?_
  .have hi:i<xs.length:=by
    have:=(wg.mp j).1
    lia
   have d:=z9p b hi;rw[wn (l:=vs),j]at d;refine Qa (zcf (A:=X.A.in1.in1) (E:=λv v=>False) J (q5 _ (wC _ (ww.mpr rfl))) (G.rec J.hok) S gH Z pz U (by exact J.ok.frames) (J.ok.hd dY) (by exact hr.depth) (aF _ _ _ _) hb d (N H2 kp2 i _ (by rw[wn,we hi];rfl))) (λw s4 hw=>?_) λv v z=>z
   obtain⟨y,H',L,ry,rfl,rfl⟩:=hw;obtain⟨t,rfl⟩:=ry;exact((t,rfl),L)
  .refine(.ref D,_,J.pins_of λp hp=>J.pin p (wC _ (q5 _ hp)),rfl,q c' H2 D is kp2 G nD (by rw[hlen];exact a) pw))
end
noncomputable def codeTabIn(K:W.Frag)(T:Addr):Bool:=K.any λp=>PySem.W.codeHdIn K p.1 T
noncomputable def codeOf(K:W.Frag)(cd:Value)(T:Addr):Bool:=match cd with
 | .ref c=>PySem.W.codeHdIn K c T
 | _=>false
variable{K:W.Frag}
theorem codeOf_ex(h:codeOf K cd T=true):∃c,cd= .ref c/\PySem.W.codeHdIn K c T=true:=by
 unfold codeOf at h;split at h
 .exact(_,rfl,h)
 .cases h
theorem z8A(X:K.In h)(e:codeTabIn K T=true):∃c,PySem.W.CodeHd h c T:=by
 obtain⟨p,_,hp⟩:=QP.mp e;exact(p.1,PySem.W.codeHd_of_K X hp)
variable{Ts:List Addr}
theorem zaZ{mg mb:Str->Option Value}{CX:CXT}{k:Nat}{B a:Addr}{c:Shared}{ns:List Int}
  (O:K.In c.heap) (G:c.heap.Ns mainGlobals mg) (f:c.heap.Ns builtinsNs mb) (Z:∀x:Str,x≠"__name__"->mb x=bootBuiltins x) (pH:c.heap.NoLimit) (U:c.gens= #[])
  (A2:∃p i,mg "__builtins__"=some (.ref p)/\p≠builtinsNs/\c.heap.get? p=some i/\i.cls= .type "module"/\i.dict=some builtinsNs/\i.data= .plain)
  (j:∀T∈Ts,c.heap.get? T=some (PySem.W.tabObj #[])) (R:∀T∈Ts,isCodeTable c.heap T) (lH:∀T∈Ts,K.lookup T=none)
  (ha:c.heap.get? a=some {cls:= .type "list",data:= .seq vs.toArray}) (hi:IntsAre vs ns) (hl:ns.length<=sizeLine) (hr:Room k callerA)
  (F:∀base:Heap,K.In base->base.Ns mainGlobals mg->(∀T∈Ts,base.BuiltinsAt mg T)->FnOk P w K mg base CX k B fd [x] sp) (aF:∀(s:Shared) (u:Value),BindsTo s fd ([u],[]) [(x,u)])
  (aq:∀H:Hp,SqL K H a (ns.map V.int)->(∀T∈Ts,H T=some (.tbl #[]))->sp [.ref a] H (λv g=>v= .bl true) λg g g=>False)
  (Y:∀H e s',CX [] H c (λg g g=>False) e s'->False):
  codeAny (model P w) callerA (.call (.ref B) ([.ref a],[])) (λr s'=>r= .ok (.ret (.bool true))/\OldK c.heap s'.heap/\s'.os=c.os/\AllBare s'.gens) c:=by
 have N:=z5W hi;have S:=hi.length;have aT:a∉Ts:=λz=>by
  have:=j a z;rw[ha]at this;cases this
 have core:∀H:Hp,(∀b,H b=none\/(b∈Ts/\H b=some (.tbl #[]))\/(b=a/\K.lookup a=none/\H b=some (.frz {cls:= .type "list",data:= .seq vs.toArray} (.lst (ns.map V.int)))))->SqL K H a (ns.map V.int)->(∀T∈Ts,H T=some (.tbl #[]))->
   codeAny (model P w) callerA (.call (.ref B) ([.ref a],[])) (λr s'=>r= .ok (.ret (.bool true))/\OldK c.heap s'.heap/\s'.os=c.os/\AllBare s'.gens) c:=by
  intro H A hS A4;have hok:HOk P w H c.heap:=λb u e=>by
   rcases A b with z|⟨m,z⟩|⟨rfl,_,z⟩
   .rw [z]at e;cases e
   .rw [z]at e;cases e;exact j b m
   .rw [z]at e;cases e;exact(ha,by rw[w9];exact hl,vs,_,N,ha)
  have E:∀{b:Addr} {o:Obj},c.heap.get? b=some o->H b=none->(z5n c.heap H).get? b=some o:=λe n=>zc0 e n
  have M:∀{b:Addr} {o:Obj},c.heap.get? b=some o->(∀xs n,o.data≠ .seq xs n)->(∀xs,o.data≠ .fields xs)->H b=none:=λ{b o} e d1 d2=>by
   rcases A b with z|⟨m,_⟩|⟨rfl,_,_⟩
   .exact z
   .have:=j b m;rw[e]at this;cases this;exact absurd rfl (d2 _)
   .rw [ha]at e;cases e;exact absurd rfl (d1 _ _)
  have Q:∀{b:Addr} {o:Obj} {es:Array DictEntry} {ep:Nat},c.heap.get? b=some o->o.data= .dict es ep->H b=none:=λ{b o es ep} e d=>M e (λxs n z=>by rw[d]at z;cases z) λxs z=>by rw[d]at z;cases z
  have y:∀{b:Addr} {m:Str->Option Value},c.heap.Ns b m->(z5n c.heap H).Ns b m:=λ{b m} (o,es,ep,e,d,r)=>(o,es,ep,E e (Q e d),d,r)
  have J:K.In (z5n c.heap H):=λb o e=>E (O b o e) (by
   rcases A b with z|⟨m,_⟩|⟨rfl,z,_⟩
   .exact z
   .rw [lH b m]at e;cases e
   .rw [z]at e;cases e)
  have hM:Mod K mg (z5n c.heap H):=(J,y G,(mb,y f,Z),let ⟨mc,h1,h2⟩:=pH;(mc,y h1,h2));have X:∀T∈Ts,(z5n c.heap H).BuiltinsAt mg T:=λT m=>by
   obtain⟨p,i,b1,b2,t,b4,b5,l⟩:=A2;refine(p,i,b1,b2,λz=>?_,λz=>?_,E t (M t (λxs n q=>by rw[l]at q;cases q) λxs q=>by rw[l]at q;cases q),b4,b5,l)
   .obtain⟨o,es,ep,e,d,_⟩:=G;rw[z,e]at t;cases t;rw[l]at d;cases d
   .have:=j T m;rw[<-z,t]at this;cases this;cases l
  have e0:Env0 P w K mg (z5n c.heap H) callerA [] c H:=(rfl,hM,λb o e=>zek e,Nat.le_of_eq (zb2 _ _),trivial,λb f=>absurd (show b∈([]:List Addr)from f) (by simp),hok,.of_eq U);refine w0n ((F _ J (y G) X).run callerA [] c H ([.ref a],[]) [.ref a] [.ref a] _ _ hr e0 (aF c (.ref a)) (.cons rfl .nil) (aq H hS A4)) λr s' h=>?_
  cases r with
  | error e=>exact(Y H e s' h).elim
  | ok fl=>
   cases fl with
   | next=>exact False.elim h
   | brk=>exact False.elim h
   | cont=>exact False.elim h
   | ret u=>
    obtain⟨v,H',os,bare,un,L,r',q⟩:=h;have q':v= .bl true:=q;subst q';obtain rfl:u=Value.bool true:=r';have at':∀b o,c.heap.get? b=some o->s'.heap.get? b=some o\/(b∈Ts/\o=PySem.W.tabObj #[]/\∃more,s'.heap.get? b=some (PySem.W.tabObj more)):=λb o e=>by
     rcases A b with z|⟨m,z⟩|⟨rfl,_,z⟩
     .exact .inl (un.keep b o e z (by intro z;exact absurd (show b∈([]:List Addr)from z) (by simp)) (by simp))
     .obtain⟨more,C⟩:=un.tbls b _ z;have D:s'.heap.get? b=some (PySem.W.tabObj (#[]++more)):=L b _ C;have I:=j b m;rw[e]at I;exact .inr (m,Option.some.inj I,_,D)
     .have C:=un.frzs b _ _ z;obtain⟨D,_⟩:=L b _ C;rw[ha]at e;cases e;exact .inl D
    refine(rfl,(λb o e=>?_,λb o e=>?_),os,bare)
    .rcases at' b o e with z|⟨m,rfl,more,z⟩
     .exact .inl z
     .exact .inr (.inl (R b m,rfl,#[],more,rfl,by rw[Array.empty_append];exact z))
    .rcases at' b o e with z|⟨m,rfl,more,z⟩
     .exact(_,z)
     .exact(_,z)
 cases hk:K.lookup a with
 | some o=>
  have e:=O a o hk;rw[ha]at e;cases e;refine core (λb=>if b∈Ts then some (.tbl #[])else none) (λb=>?_) (.inr (_,vs.toArray,_,hk,rfl,rfl,rfl,by rw[wB,S];exact hl,by simpa using N)) λT m=>qd m
  by_cases m:b∈Ts
  .exact .inr (.inl (m,qd m))
  .exact .inl (wW m)
 | none=>
  refine core (λb=>if b∈Ts then some (.tbl #[])else if b=a then some (.frz {cls:= .type "list",data:= .seq vs.toArray} (.lst (ns.map V.int)))else none) (λb=>?_) (.inl (.inr ({cls:= .type "list",data:= .seq vs.toArray},(wW aT).trans (qd rfl)))) λT m=>qd m
  by_cases m:b∈Ts
  .exact .inr (.inl (m,qd m))
  .by_cases f:b=a
   .exact .inr (.inr (f,hk,(wW m).trans (qd f)))
   .exact .inl ((wW m).trans (wW f))
theorem walk_ofT{l:PySem.W.OpenLaw}{n k:Nat}{q:Program}{loose:List Str}{I:(Str->Option Value)->Heap->Prop}{r:World->Heap->Prop}{d:DefRec}{K:Params->W.Frag}{sp:World->Sp}
  (hn:l.most=some n) (t:n<=sizeLine) (J:d.params.defaults= []) (hr:Room k callerA)
  (A:∀(w:World) (h:Heap),r w h->(K w.params).In h/\∀T∈Ts,h.get? T=some (PySem.W.tabObj #[]))
  (y:∀(w:World),∀T∈Ts,codeTabIn (K w.params) T=true) (B:∀(w:World),∀T∈Ts,(K w.params).lookup T=none)
  (F:∀(w:World) (mg:Str->Option Value) (i:Addr) (h:Heap),(K w.params).In h->h.Ns mainGlobals mg->mg d.name=some (.ref i)->
   ∃fd:FuncData,(∀(s:Shared) (u:Value),BindsTo s fd ([u],[]) [(x,u)])/\
    ∀base:Heap,(K w.params).In base->base.Ns mainGlobals mg->(∀T∈Ts,base.BuiltinsAt mg T)->FnOk l.prog w (K w.params) mg base CX0 k i fd [x] (sp w))
  (L:∀(w:World) (H:Hp) (a:Addr) (ns:List Int),ns.length<=n->SqL (K w.params) H a (ns.map V.int)->(∀T∈Ts,H T=some (.tbl #[]))->sp w [.ref a] H (λv U=>v= .bl true) λU U U=>False):
  PySem.W.WalkO q loose I r l.row.toRowW d [] (λf vs=>PySem.call f vs):=by
 refine Att.attach_call hn J λw s₀ Q mg mb i o pm cd aQ a vs ns G Y R hd S E M hints hlen O=>?_
 obtain⟨p,j⟩:=A w _ Y;obtain⟨fd,N,D⟩:=F w mg i _ p G.T.g E;exact zaZ p G.T.g G.T.b G.T.builtins G.T.nolimit O G.T.bmain j (λT m=>by
  obtain⟨c,C⟩:=z8A p (y w T m);exact(C.tab (j T m)).isCodeTable) (B w) M hints (wY hlen t) hr D N (λH P j=>L w H a ns hlen P j) λH e s' z=>z
end L2

namespace L2
open PySem PySem.Spec PyProof.Rows
theorem z7o:∀{xs:List V} {us:List Value},zM xs us->zM xs.reverse us.reverse
 | _,_,.nil=> .nil
 | _,_,.cons r t=>by rw[w05,w05];exact(z7o t).append (.cons r .nil)
variable{l:Addr}{items:Array Value}
section
variable{prog:Program}{w:World}{A:Around}{E:Value->Shared->Prop}{s:Shared}{r:Addr}
theorem z73:typeLookup (.type "list_reverseiterator") "__len__"=pure none:=by rw[typeLookup_type,builtinLookup_eq_fast];kernel_rfl
theorem z5C:typeLookup (.type "list_reverseiterator") "__length_hint__"=pure (some (.builtin "list_reverseiterator.__length_hint__")):=by rw[typeLookup_type,builtinLookup_eq_fast];kernel_rfl
theorem zcR{Q:Bool->Shared->Prop}(c:s.TypeIs (.ref r) "list_reverseiterator")(h:Q false s):wpAny (model prog w) A (Builtin.List.listLengthHint (.ref r)) Q E s:=by
 unfold Builtin.List.listLengthHint;refine wD (wpAny_specialOf c z73 ?_)
 wp_delta
 refine w1L (λa=>absurd a (by decide)) (λv=>?_);refine wD (wpAny_specialOf c z5C ?_);generalize hid:("list_reverseiterator.__length_hint__":String)=id0
 wp_delta
 rw[show splitId id0=some ("list_reverseiterator","__length_hint__")from by subst hid;decide];subst hid;refine wD (wpAny_isInstance (T:="list_reverseiterator") (b:=true) c (by rw[isSubtype_type];kernel_rfl) ?_);refine w1L (λa=>absurd a (by decide)) (λv=>?_);refine w1L (λv=>?_) (λa=>absurd (by decide) a);refine w1L (λa=>absurd a (by decide)) (λv=>?_);exact q9 h
theorem z92{R:Result->Shared->Prop}(G:A.handled=none)(d:s.heap.IsRevIter r l ((items.size:Int)-1))(hl:s.heap.IsList l items)(L:l≠r)(S:Addr)(u:S≠r)(N:S≠l)(res:Value)(t:Nat)(p:s.heap.get? S=some {cls:= .type "list",data:= .seq #[] t})
  (K:∀h' tk c c',(∀b o,b≠S->b≠r->s.heap.get? b=some o->h'.get? b=some o)->h'.get? S=some {cls:= .type "list",dict:=none,data:= .seq c c',slots:= #[]}->ItemsOf (λi v=>items[items.size-1-i]? =some v) c items.size->R (.ok (.ret res)) {s with heap:=h',toks:=tk}) (hn:items.size<=sizeLine):
  wpAny (model prog w) A.in1 (Builtin.List.listExtendWith (.ref S) (.ref r) res)
   (λfin s'=>match fin with | .done f=>R (.ok f) s' | .again c'=>c'.quiet=true/\codeAny (model prog w) A c' R s') (λe s'=>R (.error e) s') s:=by
 have x:S∉ [r,l]:=by simp only[wL,qA,QQ,not_or];exact(u,N)
 have W:=Walks.listRev (prog:=prog) (w:=w) (A:=A.in1) G r l L items;unfold Builtin.List.listExtendWith;refine wD (wpAny_typeOf (T:="list_reverseiterator") d.typeIs ?_);have h1:Builtin.List.listSameRef (.ref S) (.ref r)=false:=by simp[Builtin.List.listSameRef,u]
 have D:(Value.type "list_reverseiterator" == Value.type "list")=false:=by decide
 have M:(Value.type "list_reverseiterator" == Value.type "tuple")=false:=by decide
 simp only[h1,D,M,Bool.or_false,w0h,w0B];have B:(items.size:Int)-1-((0:Nat):Int)=(items.size:Int)-1:=by lia
 have st:0<=items.size/\s.heap.IsRevIter r l ((items.size:Int)-1-((0:Nat):Int))/\s.heap.IsList l items:=(qU _,by rw[B];exact d,hl);have key:∀(h:Heap) (j tk:Nat),(0<=items.size/\h.IsRevIter r l ((items.size:Int)-1-((0:Nat):Int))/\h.IsList l items)->(∀b o,b≠S->s.heap.get? b=some o->h.get? b=some o)->
   h.get? S=some {cls:= .type "list",data:= .seq #[] j}->codeAny (model prog w) A (.builtin "list.extend.loop" ([.ref S,.ref r,res],[])) R {s with heap:=h,toks:=tk}:=by
  intro h j tk E J H;refine codeAny_extend_loopS W.toS hn S x res items.size 0 _ #[] j rfl (qU _) E H (ItemsOf.nil _) λs' c c' hm O z=>?_
  rw[Moved.eq_with hm];refine K s'.heap s'.toks c c' (λb o a n e=>hm.heap b o (λcg=>?_) (J b o a e)) O z;rcases wL.mp cg with C|cg
  .exact a C
  .exact n (ww.mp cg)
 refine wD (wpAny_pyIter_revIter d ?_);refine wD (QO (zcR d.typeIs ?_));refine w1L (λm=>?_) (λm=>q9 (plainId_quiet PySem.F.plain_extend_loop _,key _ t _ st (λb o m e=>e) p));refine wD (wpAny_rule ?_);refine wD ?_
 show wpAny _ _ (updateSeq S (·.push .none) >>= λm=>updateSeq S (·.pop)) _ _ _
 refine wD (wpAny_updateSeq p rfl ?_);have q:=w1h (Obj.mapSeq (·.push Value.none)) p rfl;refine wpAny_updateSeq (hz:=by seq_fits) q rfl ?_;have I:=w1h (Obj.mapSeq (·.pop)) q rfl;refine q9 (plainId_quiet PySem.F.plain_extend_loop _,key _ _ _ ?_ (λb o a e=>?_) I)
 .refine W.frame 0 _ _ st λb a o e=>?_
  have y:b≠S:=λh=>x (h ▸ a)
  exact(Qi _ _ (w1G y)).trans ((Qi _ _ (w1G y)).trans e)
 .exact(Qi _ _ (w1G a)).trans ((Qi _ _ (w1G a)).trans e)
theorem zbB{Q:Value->Shared->Prop}(u:A.handled=none)(n:s.heap.IsRevIter r l ((items.size:Int)-1))(hl:s.heap.IsList l items)(z:l≠r)(hn:items.size<=sizeLine)
  (x:∀h' tk a c',(∀b o,b≠r->s.heap.get? b=some o->h'.get? b=some o)->h'.get? s.heap.objs.size=some {cls:= .type "list",dict:=none,data:= .seq a c',slots:= #[]}->ItemsOf (λi v=>items[items.size-1-i]? =some v) a items.size->Q (.ref s.heap.objs.size) {s with heap:=h',toks:=tk}):
  wpAny (model prog w) A (call (.type "list") [.ref r]) Q E s:=by
 refine callType_codes (Q₁:=λobj j=>obj= .ref s.heap.objs.size/\j={s with heap:=s.heap.push {cls:= .type "list",data:= .seq #[]}}) PySem.F.called_list (PySem.F.typeCall_list_1 _) PySem.F.entry_list_init
  (code_list_new _ (rfl,rfl)) λobj j C=>?_
 obtain⟨rfl,rfl⟩:=C;have c:(s.heap.push {cls:= .type "list",data:= .seq #[]}).get? s.heap.objs.size=some {cls:= .type "list",data:= .seq #[]}:=qh _ rfl;have h:r<s.heap.objs.size:=let ⟨o,ho,_⟩:=n;wQ ho
 have p:l<s.heap.objs.size:=let ⟨o,ho,_⟩:=hl;wQ ho
 refine((_,c,rfl),PySem.F.args_list_init_2 _ _,?_)
 show wpAny _ _ (do let D<-Builtin.List.listItems (.ref s.heap.objs.size);Builtin.List.listUpdate (.ref s.heap.objs.size) (λm=> #[]);letGo D.toList.reverse;Builtin.List.listExtendWith (.ref s.heap.objs.size) (.ref r) .none) _ _ _
 refine wD ?_;unfold Builtin.List.listItems;refine wD (wpAny_seqItems c rfl (q9 ?_))
 show wpAny _ _ (updateSeq s.heap.objs.size (λm=> #[]) >>= λm=>letGo (#[]:Array Value).toList.reverse >>= λm=>Builtin.List.listExtendWith (.ref s.heap.objs.size) (.ref r) .none) _ _ _
 refine wD (wpAny_updateSeq c rfl ?_);have t:=w1h (Obj.mapSeq (λm=>(#[]:Array Value))) c rfl;have d:∀b o,b≠s.heap.objs.size->s.heap.get? b=some o->((s.heap.push {cls:= .type "list",data:= .seq #[]}).update s.heap.objs.size (Obj.mapSeq (λm=>(#[]:Array Value)))).get? b=some o:=
  λb o B e=>(Qi _ _ (w1G B)).trans (wu _ e)
 refine wD (wpAny_letGo ?_);refine z92 (A:=A.in1) u (n.at λo e=>d r o (qc h) e) (hl.at λo e=>d l o (qc p) e) z _ (QL h) (QL p) .none _ t (λh' tk a c' y G q=>?_) hn;exact(rfl,x h' tk a c' (λb o f e=>y b o (qc (wQ e)) f (d b o (qc (wQ e)) e)) G q)
end
section
variable{X:Cx}{e:Expr}{te:TE}{p p' pos pos':Pos}
def zcB(K:W.Frag)(te:TE):TE:=λσ H Q=>te σ H λx H1=>∃l xs,x= .ref l/\SqL K H1 l xs/\∀r,H1 r=none->Q (.ref r) (upd H1 r (.lst xs.reverse))
theorem z8x(J:X.calm=true)(G:Gl X "list")(D:X.mg "list"=none)(y:Gl X "reversed")(w:X.mg "reversed"=none)(he:PE X e te)
  (hs:(starEach [.Call (.Name "reversed" p') [e] [] pos'] X.env= [(false,eval (.Call (.Name "reversed" p') [e] [] pos') X.env)])⁻¹) (i:(starEach [e] X.env= [(false,eval e X.env)])⁻¹):
  PE X (.Call (.Name "list" p) [.Call (.Name "reversed" p') [e] [] pos'] [] pos) (zcB X.K te):=by
 intro pins s σ H Q I h;refine Qw (z1d I G D qE ?_ (by decide) (by decide));refine Qk (by
  rw[hs];refine Qv ?_;refine Qw (z1d I y w PyProof.Rows.boot_reversed ?_ (by decide) (by decide));refine Qk (by
   rw[i];refine Qv (thn (he pins s σ H _ I h) ?_);rintro u s1 ⟨x,H1,a,r1,l,xs,ex,hq,q⟩;refine w0v ?_;subst ex;cases r1;obtain⟨its,d,pl,hz⟩:=a.list hq;have hlen:=d.length;refine call_reversed_list pl.isList ?_;refine w0v ?_;have E:l≠s1.heap.objs.size:=by
    obtain⟨o,t,_⟩:=pl.isList;exact qc (wQ t)
   have A:(s1.heap.push (revObj l ((its.toArray.size:Int)-1))).IsList l its.toArray:=pl.isList.at λo e=>wu _ e
   refine zbB (s:={s1 with heap:=s1.heap.push (revObj l ((its.toArray.size:Int)-1))}) (a.ok.hd J) (_,qh _ rfl,rfl,rfl) A E (by rw[wB];lia) λh' tk acc c' C F n=>?_
   have hsz:(s1.heap.push (revObj l ((its.toArray.size:Int)-1))).objs.size=s1.heap.objs.size+1:=Qo ..;have kp:∀b o,s1.heap.get? b=some o->h'.get? b=some o:=λb o e=>C b o (qc (wQ e)) (wu _ e)
   have r:acc.toList=its.reverse:=by
    obtain⟨f,B⟩:=n;refine List.ext_getElem? λj=>?_
    by_cases hj:j<its.length
    .have c:j<acc.size:=by rw[f,wB];exact hj
     have:=B j acc[j] (Array.getElem?_eq_getElem c);rw[Array.getElem?_toList,Array.getElem?_eq_getElem c,List.getElem?_reverse hj,<-this];simp
    .rw [w1i (by rw[w10,f,wB];lia),w1i (by rw[w0A];lia)]
   have z:zM xs.reverse acc.toList:=by rw[r];exact z7o d
   refine(.ref _,upd H1 _ (.lst xs.reverse),a.laid (t':=tk) kp (by rw[hsz];exact Nat.le_succ _) (by rw[w0A];exact hz,acc.toList,c',z,?_),rfl,q _ (a.hok.fresh (by rw[hsz];exact Nat.le_succ _)));rw[F,Array.toArray_toList]) (by rw[i];rfl) (by rw[show starEach ([]:List Expr) X.env= []from rfl];rfl)) (by rw[hs];rfl) (by rw[show starEach ([]:List Expr) X.env= []from rfl];rfl)
end
end L2

namespace L2
open PySem PySem.Spec PyProof.Rows
variable{t':Nat}{ch:List Addr}
section
variable{X:Cx}{pins:List (Addr×Obj)}{σ:St}{H:Hp}{s:Shared}{h':Heap}
theorem Inv.turnedL(I:Inv X pins σ H s)(k:∀b o,b∉ch->s.heap.get? b=some o->h'.get? b=some o)(a:∀b∈ch,z4i X pins H b):Inv X pins σ H {s with heap:=h',toks:=t'}:=by
 have d:∀b u,H b=some u->b∉ch:=λb u e z=>by rw[(a b z).1]at e;cases e
 refine I.step (g':=s.gens) (d':=s.drawn) (ch:=ch) (λb l=>?_) (λb o t t hc e t=>k b o hc e) (λb o t t hc e t=>(o.slots,k b o hc e)) (λt t t t n=>n)
  (λb o hc e=>(o,k b o hc e)) (λt t e=>e) (λt t t e=>e) (λb ps e=>(#[],by rw[e];simp)) (λm hm=>?_) (λb u e=>?_) I.bare
 .obtain⟨_,f1,_,j,f,i⟩:=a b l;exact(j,f1,f,i)
 .obtain⟨o,es,ep,h,r⟩:=hm;exact(o,es,ep,k _ o (λz=>(a _ z).2.1 rfl) h,r)
 .refine(I.hok b u e).stay (λc v hc q=>k c v ?_ q) (λt q=>q) λt t q=>q
  rcases hc with z|z
  .rw [z];exact d b u e
  .exact d c _ z
theorem Inv.turnedLaid{a:Addr}{o:HO}(I:Inv X pins σ H s)(k:∀b o,b∉ch->s.heap.get? b=some o->h'.get? b=some o)(f:∀b∈ch,z4i X pins H b)(hp:s.heap.objs.size<=a)
  (new:jk X.prog X.w (upd H a o) h' a o):Inv X pins σ (upd H a o) {s with heap:=h',toks:=t'}:=by
 have h:∀b u,H b=some u->b∉ch:=λb u e z=>by rw[(f b z).1]at e;cases e
 have hn:H a=none:=I.hok.fresh hp;refine I.step (g':=s.gens) (d':=s.drawn) (ch:=ch) (λb d=>?_) (λb o t t hc e t=>k b o hc e) (λb o t t hc e t=>(o.slots,k b o hc e)) (λb u t q n=>by rw[zj (qc (wT (wQ q) hp))];exact n)
  (λb o hc e=>(o,k b o hc e)) (λb xs e=>by rw[zj (zq e hn)];exact e) (λb t t e=>by rw[zj (zq e hn)];exact e) (λb ps e=>(#[],by rw[zj (zq e hn),e];simp)) (λm hm=>?_) (λb u e=>?_) I.bare
 .obtain⟨_,f1,_,p,i,l⟩:=f b d;exact(p,f1,i,l)
 .obtain⟨o,es,ep,j,r⟩:=hm;exact(o,es,ep,k _ o (λz=>(f _ z).2.1 rfl) j,r)
 .by_cases d:b=a
  .subst d;rw[zh]at e;cases e;exact new
  .rw [zj d]at e;refine(I.hok b u e).stay (λc v hc q=>k c v ?_ q) (λc q=>?_) λc xs q=>?_
   .rcases hc with z|z
    .rw [z];exact h b u e
    .exact h c _ z
   .rw [zj (zq q hn)];exact q
   .rw [zj (zq q hn)];exact q
end
end L2

namespace L2
open PySem
def zgK(σ:St):Prop:=∃o1 o2,σ= [o1,o2]
theorem zfD{X:Cx}{scope:Scope}{x y:Str}{fr:List Str}{ix:List Nat}{px py tp:Pos}{k:Nat}(hc:X.calm=true)(S:CompScG X scope [x,y] fr ix)(b:scope.names.lookup x=some .local)(c:scope.names.lookup y=some .local)(C:Addr)(cells:List (Str×Addr))(s₀:Shared)(H₀:Hp)(ex:List Addr)(pins:List (Addr×Obj)):
  PG (j9 X scope ([x,y]++fr) C cells s₀ H₀ ex pins) (.Tuple [.Name x px,.Name y py] k tp) (zfB X.K 2 (z7s (z24 0) (z7s (z24 1) zf3))):=by
 have a:(j9 X scope ([x,y]++fr) C cells s₀ H₀ ex pins).env.scope.names.lookup x=some .local:=yo (env:=X.env) b;have ly:(j9 X scope ([x,y]++fr) C cells s₀ H₀ ex pins).env.scope.names.lookup y=some .local:=yo (env:=X.env) c;exact z8h (X:=j9 X scope ([x,y]++fr) C cells s₀ H₀ ex pins) hc (z1p (z0D (i:=0) S.nd rfl (.inl a) (.inr a)) (z1p (z0D (i:=1) S.nd rfl (.inl ly) (.inr ly)) z6k))
end L2

namespace L2
open PySem PySem.Spec PyProof.Rows
structure ExcCls(K:W.Frag)(D:Addr):Prop where
 ga:PySem.W.findIn K (.ref D) "__getattribute__"=some (some (.builtin "BaseException.__getattribute__"))
 gt:PySem.W.findIn K (.ref D) "__getattr__"=some none
 be:PySem.W.subIn K (.ref D) (.type "BaseException")=some true
 hc:(PySem.W.clsIn K D).isSome=true
 ha:PySem.W.findIn K (.ref D) "__class__"=some (some (.builtin "object.__class__"))
 hn:PySem.W.specialIn K (.builtin "object.__class__") "__get__"=some (some (.builtin "getset_descriptor.__get__"))
 ht:PySem.W.takesIn K (.builtin "object.__class__")=some true
 hm:PySem.W.mroIn K D (.type "object")=some true
section
variable{X:Cx}
theorem zf4{pins:List (Addr×Obj)}{s:Shared}{σ:St}{H:Hp}{i:Nat}{x:Str}{v:V}{pos:Pos}{Q:Value->Shared->Prop}(I:Inv X pins σ H s)(a:X.N[i]? =some x)(b:Vis X.env.scope x)(e:σ[i]? =some (some v))(h:∀u,RelV v u->Q u s)
  (hd: ~~~((x == ("__debug__":Str))=false)) (d: ~~~((x == ("__classdict__":Str))=false)):wpAny (model X.prog X.w) X.A (eval (.Name x pos) X.env) Q X.xe s:=by
 obtain⟨m,hn,hl⟩:=I.loc;obtain⟨u,r,l⟩:=hl i x v a e b;have fin:=h u r;rcases l with⟨hk,hm⟩|⟨hk,c,hc,ay⟩
 .exact wpAny_Name (wpAny_loadName_local I.ok.kind hk hn hm fin) hd
 .rcases hk with hk|hk
  .exact wpAny_Name (wpAny_loadName_cell I.ok.kind hk hc ay fin) hd
  .exact wpAny_Name (wpAny_loadName_free I.ok.kind hk hc ay fin d) hd
end
end L2

namespace L2
open PySem PySem.Spec PyProof.Rows
abbrev SpS:=List Env->Shared->Sp
structure FnOkS(P:Program)(w:World)(K:W.Frag)(mg:Str->Option Value)(base:Heap)(CX:CXT)(k:Nat)(f:Addr)(fd:FuncData)(ps:List Str)(sp:SpS):Prop where
 len:∀outer s vs H Q E,sp outer s vs H Q E->vs.length=ps.length
 run:∀(A:Around) (outer:List Env) (s:Shared) (H:Hp) (args:Args) (us:List Value) (vs:List V) (Q:VK) (E:XK),Room k A->Env0 P w K mg base A outer s H->BindsTo s fd args (ps.zip us)->zM vs us->sp outer s vs H Q E->
  codeAny (model P w) A (.call (.ref f) args) (CR CX outer P w H s Q E) s
variable{P:Program}{w:World}{mg:Str->Option Value}{base:Heap}{CX:CXT}{f:Addr}{sp:SpS}
section
variable{K:W.Frag}
theorem Fun.okS{x qual:Str}{st:Stmt}{fd:FuncData}{N ps:List Str}{k:Nat}(F:Fun K x qual st f fd)(S:FnScope N ps (zi st))(len:∀outer s vs H Q E,sp outer s vs H Q E->vs.length=ps.length)
  (j:∀(aa:Value) (A:Around) (outer:List Env) (s:Shared) (H:Hp) (vs:List V) (Q:VK) (E:XK),Room k (A.deeper (envOfC qual (zi st) s.heap.objs.size f aa))->sp outer s vs H Q E->
   ∃t,PSs (z3k CX P w K mg base N qual (zi st) f aa A outer s H E) (jO st) t/\t {nx:=λm H'=>Q .non H',rt:=Q} (start N vs) H):FnOkS P w K mg base CX (k+1) f fd ps sp:=by
 obtain⟨oc,od,kV,aQ,pm,an,aa,ct,cK,rfl,z,D⟩:=F.ex;refine(len,λA outer s H args us vs Q E hr a p r d=>?_);have hl:=len _ _ _ _ _ _ d;have h:K.In s.heap:=a.mod.kin.keeps λb o e=>(a.bs b o e).1
 have B:s.heap.NoLimit:=a.mod.nolimit.keeps λb o e=>(a.bs b o e).1
 have C:∀y∈ps.zip us,(zi st).names.lookup y.1=some .local\/((zi st).names.lookup y.1=some .cell/\((cellsFrom (s.heap.objs.size+1) (zi st).names []).lookup y.1).isSome=true):=λ⟨n,v⟩ i=>by
  rcases S.par n (List.of_mem_zip i).1 with q|q
  .exact .inl q
  .exact .inr (q,PySem.W.cellsFrom_some _ _ _ (.inl q))
 refine codeAny_call_function hr.depth (h _ _ z) rfl S.co S.gen rfl (PySem.W.codeRec_of h D) (p _ _ _ _ ?_);refine wpAny_newFunctionEnv_cells S.kind C λenv he s1 x=>?_
 subst he;refine(B.keeps x.toInCall.keep,codeAny_func ?_);obtain⟨t,ht,hq⟩:=j aa A outer s H vs Q E (hr.deeper _) d;have I:Inv (z3k CX P w K mg base N qual (zi st) f aa A outer s H E) [] (start N vs) H s1:=z6g S hr.hd a hl r x;refine Qa (ht [] s1 (start N vs) H _ I hq) (λl s' hs=>?_) λe s' hs=>hs
 have fin:∀{σ':St} {H':Hp} {v:V} {u:Value},Inv (z3k CX P w K mg base N qual (zi st) f aa A outer s H E) [] σ' H' s'->RelV v u->Q v H'->CE outer P w H s Q u s':=
  λ{σ' H' v u} J c q=>(v,H',J.os,J.bare,J.base,J.hok,c,q)
 cases l with
 | ret u=>obtain⟨v,σ',H',J,c,q⟩:=hs;exact fin J c q
 | next=>obtain⟨σ',H',J,q⟩:=hs;exact fin (v:=V.non) (u:=Value.none) J rfl q
 | brk=>obtain⟨_,_,_,q⟩:=hs;exact False.elim q
 | cont=>obtain⟨_,_,_,q⟩:=hs;exact False.elim q
end
structure KnS(P:Program)(w:World)(K:W.Frag)(mg:Str->Option Value)(base:Heap)(CX:CXT)(k:Nat)(x:Str)(ps:List Str)(sp:SpS):Prop where
 ex:∃(f:Addr) (fd:FuncData),FnOkS P w K mg base CX k f fd ps sp/\mg x=some (.ref f)/\PySem.W.keepIn K (.ref f)=true/\Binds K fd ps []
structure WorkOk(P:Program)(w:World)(K:W.Frag)(mg:Str->Option Value)(base:Heap)(CX:CXT)(k:Nat)(fs:List Addr)(H:Hp)(s:Shared)(lf:Addr)(sp:Sp):Prop where
 here:∀(s':Shared) (H':Hp),Un fs [] H H' s.heap s'.heap->PySem.W.FnAt lf s'.heap
 run:∀(A:Around) (outer:List Env) (s':Shared) (H':Hp) (us:List Value) (vs:List V) (Q:VK) (E:XK),Room k A->Env0 P w K mg base A outer s' H'->Un fs [] H H' s.heap s'.heap->zM vs us->sp vs H' Q E->
  codeAny (model P w) A (.call (.ref lf) (us,[])) (CR CX outer P w H' s' Q E) s'
noncomputable abbrev cxW(CX:CXT)(P:Program)(w:World)(K:W.Frag)(mg:Str->Option Value)(base:Heap)(A:Around)(outer:List Env)(qual:Str)(scope:Scope)(N:List Str)(f:Addr)(cd:Value)(cells:List (Str×Addr))(s:Shared)(H:Hp)(E:XK):Cx:=
 {prog:=P,w:=w,K:=K,mg:=mg,base:=base,A:=A.deeper (PySem.W.envX qual scope s.heap.objs.size f cd cells),N:=N,s₀:=s,H₀:=H,env:=PySem.W.envX qual scope s.heap.objs.size f cd cells,outer:=outer,
  stack:=PySem.W.envX qual scope s.heap.objs.size f cd cells::outer,ex:= [],fn:=λv=>false,calm:=true,pn:= [],
  xe:=λe s'=>wpAny (model P w) (A.deeper (PySem.W.envX qual scope s.heap.objs.size f cd cells)) (leaving (PySem.W.envX qual scope s.heap.objs.size f cd cells) e) (λv a=>CX outer H s E e a) (λb a=>CX outer H s E b a) s'}
structure LamSc(scope:Scope)(a b y:Str):Prop where
 kind:scope.kind= .function
 co:scope.isCoroutine=false
 gen:scope.isGenerator=false
 la:scope.names.lookup a=some .local
 lb:scope.names.lookup b=some .local
 ly:scope.names.lookup y=some .free
 nd: [a,b,y].Nodup
 nc:∀z∈scope.names,z.2≠ .cell
 only:∀z∈scope.names,z.2= .free->z.1=y
variable{scope:Scope}{s:Shared}{H:Hp}{E:XK}
theorem zbr{K:W.Frag}{A:Around}{outer:List Env}{qual:Str}{a b y:Str}{j:Addr}{cd:Value}{h1:Heap}{tk:Nat}{v1 v2 tv:V}{t r B:Value}
  (S:LamSc scope a b y) (D:A.handled=none) (l:Env0 P w K mg base A outer s H) (r1:RelV v1 t) (r2:RelV v2 r) (r3:RelV tv B) (hc:s.heap.IsCell j (some B)) (F:H j=none)
  (I:h1.Ns s.heap.objs.size (λz=> [(a,t),(b,r)].reverse.lookup z)) (u:∀b o,s.heap.get? b=some o->h1.get? b=some o):
  Inv (cxW CX P w K mg base A outer qual scope [a,b,y] f cd [(y,j)] s H E) [] [some v1,some v2,some tv] H {s with heap:=h1,toks:=tk}:=by
 have G:a≠b:=by have:=S.nd;simp at this;exact this.1.1
 have look:∀z c,([(y,j)]:List (Str×Addr)).lookup z=some c->z=y/\c=j:=λz c e=>by
  rw[qK]at e;split at e
  .rename_i q;exact(eq_of_beq q,(Option.some.inj e).symm)
  .cases e
 have C:∀d:Addr,d∉(cxW CX P w K mg base A outer qual scope [a,b,y] f cd [(y,j)] s H E).ex:=λd z=>absurd (show d∈([]:List Addr)from z) (by simp)
 refine((l.mod,S.kind,rfl,rfl,wA _,λx z c h1 h2=>(look x c h1).1.trans (look z c h2).1.symm,λx hx=>?_,λx c z v=>absurd z wU,λv=>D,Around.frames_deeper l.frames,.inr (rfl,rfl),λb z=>absurd z (C b),l.bs,l.bsz,λb v v=>C b,λb z=>absurd z (C b),l.funs,l.frf),
  rfl,l.bare,Un.kept u,(_,I,λi x v' h1 h2 J=>?_),λx c h=>?_,l.hok.fresh (wA _),λx c h=>?_,λp hp=>absurd (show p∈([]:List (Addr×Obj))from hp) (by simp),l.hok.kept u,rfl)
 .have hx:scope.names.lookup x=some .cell\/scope.names.lookup x=some .free:=hx;rcases hx with hx|hx
  .exact absurd rfl (S.nc _ (Q2 hx))
  .have:x=y:=S.only _ (Q2 hx) rfl;subst this;exact(j,by show([(x,j)]:List (Str×Addr)).lookup x=some j;simp)
 .match i,h1,h2 with
  | 0,h1,h2=>
   cases (show a=x from Option.some.inj h1);cases (show some v1=some v' from Option.some.inj h2);refine(t,r1,.inl (S.la,?_))
   show([(b,r),(a,t)]:List (Str×Value)).lookup a=some t
   rw[qK,show(a == b)=false from by simpa using G];simp
  | 1,h1,h2=>
   cases (show b=x from Option.some.inj h1);cases (show some v2=some v' from Option.some.inj h2);refine(r,r2,.inl (S.lb,?_))
   show([(b,r),(a,t)]:List (Str×Value)).lookup b=some r
   simp
  | 2,h1,h2=>
   cases (show y=x from Option.some.inj h1);cases (show some tv=some v' from Option.some.inj h2);exact(B,r3,.inr (.inr S.ly,j,by show([(y,j)]:List (Str×Addr)).lookup y=some j;simp,hc.keeps u))
  | n+3,h1,_=>cases h1
 .obtain⟨_,rfl⟩:=look x c h;exact(_,hc.keeps u)
 .obtain⟨_,rfl⟩:=look x c h;exact F
section
variable{X:Cx}{pins:List (Addr×Obj)}{σ:St}{k:Nat}{T c:Addr}{lp:Pos}{params:Arguments}{body:Expr}{a b y:Str}{j:Nat}{tv:V}{tb:XK->TE}
theorem zda{pm ct:Value}(I:Inv X (pins++[(f,z3L X params body scope pm c ct)]) σ H s)(df:z5a H T lp (X.env.qual ++ "<lambda>") c)(S:LamSc scope a b y)(C:X.env.kindOf y=some .cell\/X.env.kindOf y=some .free)(R:X.N[j]? =some y)(hσ:σ[j]? =some (some tv))
  (bA:yP X.env scope.names []= [(y,(X.env.cells.lookup y).getD 0)])
  (aF:∀(pm ct p n:Value) (c:Addr),bindArgs (PySem.W.kla_fn "<lambda>" (X.env.qual ++ "<lambda>") params body scope (yP X.env scope.names []) pm (.ref c) ct) ([p,n],[])=pure [(a,p),(b,n)])
  (hb:∀A outer f cd d s H E,Room k (A.deeper (PySem.W.envX (X.env.qual ++ "<lambda>") scope s.heap.objs.size f cd [(y,d)]))->PE (cxW CX X.prog X.w X.K X.mg X.base A outer (X.env.qual ++ "<lambda>") scope [a,b,y] f cd [(y,d)] s H E) body (tb E)):
  WorkOk X.prog X.w X.K X.mg X.base CX (k+1) (frs X.stack) H s f (λvs H Q E=>∃v1 v2,vs= [v1,v2]/\tb E [some v1,some v2,some tv] H Q):=by
 obtain⟨D,F,_⟩:=I.pin _ (wC _ (wC _ (ww.mpr rfl)));obtain⟨d,u⟩:=I.ok.has y C;obtain⟨m,hn,hl⟩:=I.loc;obtain⟨M,rt,lk⟩:=hl j y tv R hσ (by
  rcases C with q|q
  .exact .inr (.inl q)
  .exact .inr (.inr q))
 have G:s.heap.IsCell d (some M):=by
  rcases lk with⟨q,_⟩|⟨_,c',e',z⟩
  .rcases C with z|z
   .rw [q]at z;cases z
   .rw [q]at z;cases z
  .rw [u]at e';cases e';exact z
 have O:H d=none:=I.freeC y d u;have pK:yP X.env scope.names []= [(y,d)]:=by rw[bA,u];rfl
 refine(λs' H' un=>?_,λA outer s' H' us vs Q E hr l un r B=>?_)
 .obtain⟨sl,e⟩:=un.any D F (by simp);exact(_,_,_,_,e)
 .obtain⟨v1,v2,rfl,B⟩:=B;obtain⟨p,n,rfl,r1,r2⟩:=vals2 r;obtain⟨sl,e⟩:=un.any D F (by simp);have gL:s'.heap.IsCell d (some M):=by
   obtain⟨o,x,hd⟩:=G;obtain⟨sl,e⟩:=un.any x O (by simp);exact(_,e,hd)
  have P:H' d=none:=by
   obtain⟨o,x,_⟩:=G;exact un.free d o x O (by simp)
  have gG:s'.heap.CodeRec (.ref c) (X.env.qual ++ "<lambda>"):=by
   obtain⟨_,oc,vs,t,h2,Z,h4⟩:=df;obtain⟨e,_⟩:=l.hok c _ (un.frzs _ _ _ h2);exact(c,oc,vs,t,rfl,e,Z,h4)
  have gk:s'.heap.NoLimit:=l.mod.nolimit.keeps λb o e=>(l.bs b o e).1
  refine PySem.W.kla_callFunE hr.depth e rfl S.co S.gen rfl gG ?_;have L:=aF pm ct p n c;dsimp only at L ⊢;rw[L];refine q9 (wpAny_newFunctionEnv S.nc (λz hz=>?_) (λh1 de i=>(?_,?_)) S.kind)
  .simp only [wL,qA,QQ]at hz;rcases hz with rfl|rfl
   .exact S.la
   .exact S.lb
  .exact gk.fresh _ i
  .have Y:∀b o,s'.heap.get? b=some o->h1.get? b=some o:=λb o e=>i.extBut b o (qc (wQ e)) (wu _ e)
   have U:=zbr (CX:=CX) (qual:=X.env.qual ++ "<lambda>") (f:=f) (cd:= .ref c) (E:=E) (tk:=s'.toks+2) S hr.hd l r1 r2 rt gL P de Y
   show codeAny _ _ (.expr body (PySem.W.envX (X.env.qual ++ "<lambda>") scope s'.heap.objs.size f (.ref c) (yP X.env scope.names []))) _ _
   rw[pK];refine PySem.W.kla_codeExpr (Qa (hb A outer f (.ref c) d s' H' E (hr.deeper _) [] _ _ H' Q U B) (λw s2 hq=>?_) λe s2 z=>z);obtain⟨v,H2,J,ry,q⟩:=hq;exact(v,H2,J.os,J.bare,J.base,J.hok,ry,q)
def zcS(X:Cx)(CX:CXT)(k:Nat)(T:Addr)(lp:Pos)(q:Str)(j:Nat)(tb:XK->TE)(sp:SpS)(E:XK)(te:TE):TE:=λσ H Q=>te σ H λv H1=>jN H1 T lp q/\∃tv,σ[j]? =some (some tv)/\
 ∀(lf c:Addr) (H2:Hp) (s2:Shared),Kp T H1 H2->z5a H2 T lp q c->WorkOk X.prog X.w X.K X.mg X.base CX (k+1) (frs X.stack) H2 s2 lf (λvs H Q E=>∃v1 v2,vs= [v1,v2]/\tb E [some v1,some v2,some tv] H Q)->sp X.stack s2 [v,.ref lf] H2 Q E
theorem z2X{M:Nat}{F:Str}{ps:List Str}{p pos:Pos}{e:Expr}{te:TE}(C:KnS X.prog X.w X.K X.mg X.base CX M F ps sp)(hx:z1t CX X E)(hr:Room M X.A)(Z:Gl X F)(he:PE X e te)(hc:X.env.code= .ref c)(hC:PySem.W.CodeHd X.base c T)(B:X.base.BuiltinsAt X.mg T)
  (S:LamSc scope a b y) (t:X.env.kindOf y=some .cell\/X.env.kindOf y=some .free) (O:X.N[j]? =some y)
  (hb:∀A outer f cd L s H E,Room k (A.deeper (PySem.W.envX (X.env.qual ++ "<lambda>") scope s.heap.objs.size f cd [(y,L)]))->PE (cxW CX X.prog X.w X.K X.mg X.base A outer (X.env.qual ++ "<lambda>") scope [a,b,y] f cd [(y,L)] s H E) body (tb E))
  (bA:(yP X.env scope.names []= [(y,(X.env.cells.lookup y).getD 0)])⁻¹)
  (aF:∀(pm ct D n:Value) (c:Addr),bindArgs (PySem.W.kla_fn "<lambda>" (X.env.qual ++ "<lambda>") params body scope (yP X.env scope.names []) pm (.ref c) ct) ([D,n],[])=pure [(a,D),(b,n)]:=by intro _ _ _ _ _;rfl)
  (dX:(defaultsOf params X.env=([],[]))⁻¹) (c7: ~~~((F == ("__debug__":Str))=false))
  (x:(starEach [e,.Lambda params body scope lp] X.env=(false,eval e X.env)::starEach [.Lambda params body scope lp] X.env)⁻¹) (ef:(starEach [.Lambda params body scope lp] X.env= [(false,eval (.Lambda params body scope lp) X.env)])⁻¹) (U:((backTo pos (starEach [.Lambda params body scope lp] X.env)).any (·.1)=false)⁻¹):
  PE X (.Call (.Name F p) [e,.Lambda params body scope lp] [] pos) (zcS X CX k T lp (X.env.qual ++ "<lambda>") j tb sp E te):=by
 obtain⟨f0,fd,l,hm,Y,nU⟩:=C.ex;intro pins s σ H Q I h;refine Qw (z3v I Z hm ?_ c7);refine w1b (h₀:=X.base) I.ok.mod.kin Y ?_ x U;rw[x,ef]
 show wpAny _ _ (spliced [(false,eval e X.env),(false,eval (.Lambda params body scope lp) X.env)]) _ _ s
 refine Qv (thn (he pins s σ H _ I h) ?_);rintro u s1 ⟨v,H1,P,r1,hL,tv,hσ,q⟩;refine Qv ?_;refine z7k P hc hC B hL dX (λz hz i=>by rw[S.only z hz i];exact t) λf c' ct pm H2 s2 kp2 G d=>w0v (d.kIn,?_)
 have W:=zda (CX:=CX) (k:=k) d G S t O hσ bA aF hb;have o:=q f c' H2 s2 kp2 G W;have hl:=l.len _ _ _ _ _ _ o;have rv:zM [v,.ref f] [u,.ref f]:= .cons r1 (.cons rfl .nil);have bx:([u,Value.ref f]++([]:List Value)).length=ps.length:=hl;have bd:=nU s2 [u,.ref f] d.kIn bx;rw[Q3]at bd;refine w1Q (w0n (l.run X.A X.stack s2 H2 ([u,.ref f],[]) [u,.ref f] [v,.ref f] Q E hr d.env0 bd rv o) λr s' hq=>?_);cases r with
 | error e=>exact hx _ σ H2 s2 e s' d hq
 | ok fl=>
  cases fl with
  | ret u=>
   obtain⟨v',H',J,R,q'⟩:=d.after hq;exact(v',H',J.pins_of λp hp=>J.pin p (wC _ (q5 _ hp)),R,q')
  | next=>exact False.elim hq
  | brk=>exact False.elim hq
  | cont=>exact False.elim hq
end
end L2

namespace L2
open PySem PySem.Spec PyProof.Rows
noncomputable def once(ks:List Str):List Str:=ks.foldl (λacc k=>if k∈acc then acc else acc++[k]) []
theorem z2u(ks:List Str)(k:Str):once (ks++[k])=if k∈once ks then once ks else once ks++[k]:=by
 unfold once;rw[w0X]
 rfl
theorem snoc_ind{α:Type}{P:List α->Prop}(h0:P [])(h1:∀l a,P l->P (l++[a]))(l:List α):P l:=by
 have:∀l:List α,P l.reverse:=λl=>by
  induction l with
  | nil=>exact h0
  | cons a r b=>rw[w05];exact h1 _ _ b
 have:=this l.reverse
 rwa [List.reverse_reverse]at this
theorem z3d{k:Str}(ks:List Str):k∈once ks↔k∈ks:=by
 refine snoc_ind (P:=λks=>k∈once ks↔k∈ks) (by unfold once;simp) (λl a b=>?_) ks;rw[z2u];split
 .rename_i h;rw[wE,b];refine(.inl,λz=>z.elim id λz=>?_);rw[ww.mp z]at b ⊢;exact b.mp h
 .rw [wE,wE,b]
theorem z9x(ks:List Str):(once ks).length<=ks.length:=by
 refine snoc_ind (P:=λks=>(once ks).length<=ks.length) (by unfold once;simp) (λl a b=>?_) ks;rw[z2u];split<;>simp only[wm,wJ]<;>lia
theorem z8I(ks:List Str):(once ks).length=ks.length↔ks.Nodup:=by
 refine snoc_ind (P:=λks=>(once ks).length=ks.length↔ks.Nodup) (by unfold once;simp) (λl a b=>?_) ks;have f:=z9x l;rw[z2u];split
 .rename_i h;rw[z3d]at h;refine(λz=>?_,λz=>?_)
  .rw [wm,wJ]at z;lia
  .exact absurd rfl ((w04.mp z).2.2 a h a (ww.mpr rfl))
 .rename_i h;rw[z3d]at h;rw[wm,wm];refine(λz=>?_,λz=>?_)
  .have:=b.mp (by simpa using z);exact w04.mpr (this,by simp,λx d y c e=>h (by rw[ww.mp c]at e;rw[<-e];exact d))
  .rw [b.mpr (w04.mp z).1]
variable{ks:List Str}
section
variable{prog:Program}{w:World}{A:Around}
noncomputable abbrev tk(prog:Program)(w:World):=PySem.strKind prog w
theorem zcm{R:Result->Shared->Prop}{I:Addr}{fp a:List Addr}{G:Array GenState->Array GenState->Prop}{n:Nat}{r:Nat->Value->Prop}{St:Nat->Shared->Prop}(W:WalksS prog w A.in1 I fp a G n r St){S:Addr}(y:S∉fp)(hn:ks.length=n)
  (K:∀i v,r i v->∃t,v= .str (ks.getD i "") t) (M:n+1<scanBound):∀(k i:Nat) (s:Shared),n-i=k->i<=n->St i s->s.heap.SetOf (tk prog w) S (λx=>decide (x∈ks.take i)) (once (ks.take i)).length->
   (∀s',Moved (S::a) G s s'->s'.heap.SetOf (tk prog w) S (λx=>decide (x∈ks)) (once ks).length->R (.ok (.ret .none)) s')->codeAny (model prog w) A (.builtin "set.update.loop" ([.ref S,.ref I],[])) R s:=by
 have sub:∀b∈a,b∈S::a:=λb z=> .tail _ z
 have H:S∉a:=λz=>y (W.sub _ z)
 have u:∀{s s':Shared} {g:Str->Bool} {m:Nat},Moved a G s s'->s.heap.SetOf (tk prog w) S g m->s'.heap.SetOf (tk prog w) S g m:=λhm ⟨o,es,ep,t,C,z⟩=>(o,es,ep,t,hm.heap S _ H C,z)
 intro k;induction k with
 | zero=>
  intro i s J hi st d fin;obtain rfl:i=n:=by lia
  rw[Q0 (by lia)]at d;refine codeAny_builtin PyProof.Rows.F.entry_set_update_loop (by
   rw[Around.under_plainId w0s _];exact wD (W.done s _ _ st λs' hm=>q9 (fin s' (hm.mono sub) (u hm d))))
 | succ k D=>
  intro i s J hi st d fin;have l:i<ks.length:=by lia
  refine codeAny_builtin PyProof.Rows.F.entry_set_update_loop (by
   rw[Around.under_plainId w0s _];refine wD (W.item i s _ _ (by lia) st λv s' hp B hm=>?_);obtain⟨t,rfl⟩:=K i v hp;have E:=u hm d;have room:(once (ks.take i)).length+1<scanBound:=by
    have h1:=z9x (ks.take i);rw[wV]at h1
    lia
   have j:ks.getD i ""=ks[i]:=by rw[wn,we l];rfl
   have p:ks.take (i+1)=ks.take i++[ks[i]]:=by rw[wR,we l];rfl
   refine wD (QO (QO (wD ((tk prog w).pyHash (k:=ks[i]) (v:= .str (ks.getD i "") t) ?_ ?_))))
   .rw [j];exact strKind_is _ _ _ _
   refine wpAny_setAddHashed_of (knd:=tk prog w) (k:=ks[i]) ?_ rfl E room λh' c f=>?_
   .rw [j];exact strKind_is _ _ _ _
   have L:h'.SetOf (tk prog w) S (λx=>decide (x∈ks.take (i+1))) (once (ks.take (i+1))).length:=by
    refine PyProof.Rows.SetOf_congr f (λx=>?_) ?_
    .show(decide (x∈ks.take i)||decide (x=ks[i]))=_
     rw[p,<-Bool.decide_or];exact w1s.mpr (by rw[wE,ww])
    .rw [p,z2u];by_cases hm:ks[i]∈ks.take i
     .rw [qd (by simpa using hm),qd ((z3d _).mpr hm)]
     .rw [wW (by simpa using hm),wW (λz=>hm ((z3d _).mp z)),wm];rfl
   refine q9 (plainId_quiet w0s _,D (i+1) _ (by lia) (by lia) (W.frame _ s' _ _ B (Nat.le_succ _) λb z o e=>?_) L λs2 h=>?_)
   .rw [c.2 b λq=>y (q ▸ z)];exact e
   .refine fin s2 (Moved.trans W.gtrans ((hm.mono sub).then_heap (Nat.le_succ _) λb o z e=>?_) h);rw[c.2 b λq=>z (q ▸ .head _)];exact e)
noncomputable abbrev newSet(a:Bool):Obj:={cls:= .type "set",dict:=none,data:= .set #[] 0 (.fresh 0 0 a)}
theorem zaM{E:Value->Shared->Prop}{s:Shared}{l:Addr}{items:List Value}{Q:Value->Shared->Prop}(J:A.handled=none)(hl:s.heap.IsList l items.toArray)(hi:zM (ks.map V.str) items)(j:ks.length+1<scanBound)
  (h:∀(h':Heap) (f:Nat),h'.SetOf (tk prog w) s.heap.objs.size (λx=>decide (x∈ks)) (once ks).length->(∀b o,b<s.heap.objs.size->s.heap.get? b=some o->h'.get? b=some o)->Q (.ref s.heap.objs.size) {s with heap:=h',toks:=f}):
  wpAny (model prog w) A (call (.type "set") [.ref l]) Q E s:=by
 have hlen:items.length=ks.length:=by rw[<-hi.length,w9]
 obtain⟨c,tl,U⟩:=w1j.mro;have a1:=w1j.made;have a2:=w1j.sub;have P:=w1j.notType;have X:=w1j.canCreate;have a5:=F.typeCall_set_1 (.ref l);refine w1Q (codeAny_of_tree (q9 (Code.quiet_builtin _ (by decide),codeAny_builtin F.entry_type_call ?_)));rw[Around.under_plain (weight_type_call_type "set" [.ref l] []) rfl]
 repeat (any_goals (first|assumption|wp_step))
 refine w0n (code_set_new_1 (.ref l) (E:=E) (Q₁:=λo s1=>∃a:Bool,o= .ref s.heap.objs.size/\s1={s with heap:=s.heap.push {cls:= .type "set",dict:=none,data:= .set #[] 0 (.fresh 0 0 a)}}) λa=>(a,rfl,rfl)) λr s1 hr=>?_
 rcases r with e|(_|_|_|o)
 .exact hr
 .exact hr
 .exact hr
 .exact hr
 .obtain⟨a,rfl,rfl⟩:=hr;have y:(s.heap.push (newSet a)).get? s.heap.objs.size=some (newSet a):=qh _ rfl;have L:Shared.TypeIs {s with heap:=s.heap.push (newSet a)} (.ref s.heap.objs.size) "set":=(_,y,rfl);have b1:=w1j.init.lookup;have b2:=w1j.init.bind (.ref s.heap.objs.size)
  repeat (any_goals (first|assumption|wp_step))
  refine w0n (codeAny_call_builtin (R:=wants (λr s2=>r= .none/\∃h' f,s2={s with heap:=h',toks:=f}/\h'.SetOf (tk prog w) s.heap.objs.size (λx=>decide (x∈ks)) (once ks).length/\∀b o,b<s.heap.objs.size->s.heap.get? b=some o->h'.get? b=some o) E)
   w1j.init.plain F.entry_set_init (check_set_init_1 L ?_)) λr2 s2 d=>?_
  .obtain⟨⟨oc,od,Z,os⟩,I,D,H,G⟩:=hl;simp only at D G;subst D G;have c1:(s.heap.push (newSet a)).get? l=some {cls:= .type "list",dict:=od,data:= .seq items.toArray H,slots:=os}:=wu _ I;have Y:=F.sub_list_set;have c3:=F.sub_list_frozenset;have T:(Value.type "list" == Value.type "dict")=false:=by decide
   have q:(s.heap.push (newSet a)).IsList l items.toArray:=(_,c1,rfl,H,rfl);unfold Builtin.«set.__init__» noKeywords Builtin.Frozenset.updateFrom;generalize hPI:pyIter=PI
   wp_walk
   subst hPI;have d1:l<s.heap.objs.size:=wQ I;have d2:A.in1.in1.in1.handled=none:=by simp[J]
   have n:(s.heap.push (newSet a)).objs.size=s.heap.objs.size+1:=Qo _ _;refine wpAny_pyIter_list q (wD (wpAny_runValue ?_));refine zcm (ks:=ks) (S:=s.heap.objs.size) ((Walks.list d2 _ l (by rw[n];exact qc (Qc d1)) items.toArray).toS) (λz=>(wL.mp z).elim (λe=>absurd (e.trans n) (qc (w0E _))) λz=>absurd (ww.mp z) (QL d1)) (by simp[hlen]) (λi v z=>?_) (by simp[hlen];exact j) _ 0 _ rfl (qU _) ((_,qh _ rfl,rfl,rfl),q.push _) ?_ ?_
   .have z':items[i]? =some v:=by simpa using z
    have B:i<ks.length:=by rw[<-hlen];exact(wg.mp z').1
    obtain⟨u,C,M⟩:=hi.get (show(ks.map V.str)[i]? =some (.str ks[i]) by rw[wM,we B];rfl);rw[z']at C;cases C;obtain⟨t,rfl⟩:=M;exact(t,by rw[wn,we B];rfl)
   .have O:=wu (h:=s.heap.push (newSet a)) {cls:= .type "list_iterator",data:= .fields #[.ref l,.int 0 0]} y;exact PyProof.Rows.SetOf_congr ((PyProof.Rows.setObjOf_fresh (knd:=tk prog w) a).setOf O (by unfold scanBound;lia)) (λm=>by simp) (by unfold once;rfl)
   .intro s' hm p;obtain⟨h',g',d',t',K⟩:=s';obtain rfl:g'=s.gens:=hm.gens;obtain rfl:d'=s.drawn:=hm.drawn;obtain rfl:K=s.os:=hm.os;refine q9 (q9 (rfl,h',t',rfl,p,λb o j e=>?_));refine hm.heap b o ?_ (wu _ (wu _ e));exact λz=>(wL.mp z).elim (qc j) λz=>absurd ((ww.mp z).trans n) (qc (Qc j))
  .rcases r2 with e|(_|_|_|o)
   .exact d
   .exact d
   .exact d
   .exact d
   .obtain⟨rfl,h',f,rfl,p,N⟩:=d
    repeat (any_goals (first|assumption|wp_step))
    exact h _ _ p N
end
end L2

namespace L2
open PySem PySem.Spec PyProof.Rows
def zfn(P:Program)(w:World)(a:Addr)(n:Nat)(h:Heap):Prop:=∃S,h.SetOf (tk P w) a S n
variable{X:Cx}{P:Program}{w:World}
theorem zd2{K:W.Frag}(n:X.prog=P)(x:X.w=w)(d:X.K=K)(hc:X.calm=true):ki X (.type "set") (λxs H Q=>∃l ks,xs= [.ref l]/\SqL K H l (ks.map V.str)/\ks.length<=1000/\∀a,H a=none->Q (.ref a) (upd H a (.ext (zfn P w a (once ks).length)))):=by
 subst n x d;intro pins s σ H xs us Q I r h;obtain⟨l,ks,rfl,hl,hn,q⟩:=h;obtain⟨u,rfl,j⟩:=r.one;cases (show u=Value.ref l from j);obtain⟨its,f,pl,hz⟩:=I.list hl;refine zaM (ks:=ks) (I.ok.hd hc) pl.isList f (by unfold scanBound;lia) λh' t' c i=>?_
 have p:∀b o,s.heap.get? b=some o->h'.get? b=some o:=λb o e=>i b o (wQ e) e
 refine(.ref _,_,I.laid p (wA _) ?_,rfl,q _ I.fresh);refine((_,c),?_,λh1 h2 ⟨S,o,es,ep,t,e,z⟩ k=>(S,o,es,ep,t,k o e,z));obtain⟨o,es,ep,t,e,_⟩:=c;exact(o,e)
theorem z7R(d:X.prog=P)(j:X.w=w):ki X (.builtin "len") (λxs H Q=>∃a n,xs= [.ref a]/\H a=some (.ext (zfn P w a n))/\Q (.int (n:Nat)) H):=by
 subst d j;intro pins s σ H xs us Q I r h;obtain⟨a,n,rfl,ha,q⟩:=h;obtain⟨u,rfl,c⟩:=r.one;cases (show u=Value.ref a from c);obtain⟨⟨S,o,es,ep,t,e,b,hd,_,_,f,i,hn⟩,_,_⟩:=(show jk X.prog X.w H s.heap a (.ext (zfn X.prog X.w a n))from I.hok a _ ha);refine call_len_set e b hd i (by unfold scanBound at f;lia) ?_;exact(.int n,H,I.tok _,(_,by rw[hn]),q)
def zeh:V->List V->Hp->VK->Prop:=λx vs H Q=>∃l xs y,x= .ref l/\vs= [.int 0,y]/\H l=some (.lst xs)/\xs.length<sizeLine/\Q .non (upd H l (.lst (y::xs)))
theorem zbe:MtM X "list.insert" zeh:=by
 intro pins s σ H x vs v us Q I b c h;obtain⟨l,xs,y,rfl,rfl,a,hz,q⟩:=h;cases b;obtain⟨i,u,rfl,r0,f⟩:=vals2 c;obtain⟨d,rfl⟩:=r0;obtain⟨z,its,n,r,hl,e⟩:=I.lstM a;refine w20 F.slot_list_insert (_,e,rfl) F.entry_list_insert (F.args_list_insert_3 _ _ _) (PySem.AutoSeq1.list_insert_list_int_val_1 l its.toArray n 0 d u (by decide) (by rw[wB];lia)) (e,?_);refine(.non,_,I.lset (its':=u::its) a e (by simp) (.cons f r) ?_,rfl,q);rw[wP]
 lia
def ze2(K:W.Frag):R2:=λx y H Q=>∃a b xs ys,x= .ref a/\y= .ref b/\SqL K H a xs/\SqL K H b ys/\xs.all ko=true/\ys.all ko=true/\Q (.bl (!eqL xs ys)) H
theorem zaz{K:W.Frag}(n:X.K=K)(E:X.A.units+1<cLine):OpR X (compareOp .NotEq) (ze2 K):=by
 subst n;intro pins s σ H x y v u Q I p z h;have i:X.A.units<cLine:=by lia
 obtain⟨a,b,xs,ys,rfl,rfl,ha,C,B,w,q⟩:=h;cases p;cases z;obtain⟨its,r,pl,hz⟩:=I.list ha;obtain⟨F,r2,f,_⟩:=I.list C;have l1:=r.length;have l2:=r2.length;by_cases hl:xs.length=ys.length
 .refine SeqAt.RcNeAt.lists (e:=λj=>eqV (xs.getD j .non) (ys.getD j .non)) pl.isList f.isList (by rw[wB,wB];lia) i (λj h1 h2=>?_) _ _ _ _ (.bl (!eqL xs ys),H,I,?_,q)
  .rw [wB]at h1;have c:xs[j]? =some xs[j]:=we (by lia);have d:ys[j]? =some ys[j]:=we (by lia);obtain⟨w1,D,t⟩:=r.get c;obtain⟨w2,o,l⟩:=r2.get d;rw[w0k,w0k,(wg.mp D).2,(wg.mp o).2,wn,wn,c,d];exact z6Y t l (qS.mp B _ (qN c)) (qS.mp w _ (qN d))
  .show Value.bool _=Value.bool _
   rw[eqL,wN hl,w1J,wB,<-l1]
 .refine SeqAt.RcNeAt.lists_lengths pl.isList f.isList ?_ i _ _ _ _ (.bl (!eqL xs ys),H,I,?_,q)
  .rw [wB,wB,bne_iff_ne,<-l1,<-l2];exact hl
  .show Value.bool true=Value.bool _
   rw[eqL,wK hl,w1p];rfl
def zgg{tg e:Expr}{w1 w2:TI}(h1:PI X tg e w1)(h2:PI X tg e w2):PI X tg e (λσ H R=>w1 σ H R\/w2 σ H R):=λpins s σ H R I h=>h.elim (h1 pins s σ H R I) (h2 pins s σ H R I)
end L2

namespace L2
open PySem PySem.Spec PyProof.Rows
noncomputable def hid(H:Hp)(d:Addr):Hp:=λb=>if b=d then none else H b
variable{H:Hp}{d:Addr}
theorem jq{b:Addr}(h:b≠d):hid H d b=H b:=wW h
theorem yD:hid H d d=none:=qd rfl
theorem yK{o:HO}(h:H d=none):hid (upd H d o) d=H:=by
 funext b
 by_cases e:b=d
 .subst e;rw[yD,h]
 .rw [jq e,zj e]
theorem z25{b:Addr}(h:H b=none):hid H d b=none:=by
 unfold hid;split
 .rfl
 .exact h
section
variable{X:Cx}{pins:List (Addr×Obj)}{σ:St}{H2:Hp}{s s':Shared}{xs:List V}
theorem Inv.hide(I:Inv X pins σ H s)(hd:H d=some (.lst xs)):Inv X pins σ (hid H d) s:=by
 have nd:∀{b:Addr} {o:HO},H b=some o->(∀ys,o≠ .lst ys)->hid H d b=some o:=λ{b o} e n=>by
  rw[jq (λz=>by rw[z,hd]at e;cases e;exact n _ rfl)];exact e
 refine(I.ok,I.os,I.bare,(I.base.keep,I.base.slot,λb o e n f=>z25 (I.base.free b o e n f),I.base.there,λb ys e=>nd (I.base.tups b ys e) (by intro _ z;cases z),λb o u e=>nd (I.base.frzs b o u e) (by intro _ z;cases z),λb ps e=>?_),
  I.loc,I.cell,z25 I.free,λx c e=>z25 (I.freeC x c e),λp hp=>?_,λb u e=>?_,I.len)
 .obtain⟨more,z⟩:=I.base.tbls b ps e;exact(more,nd z (by intro _ z;cases z))
 .obtain⟨a1,a2,a⟩:=I.pin p hp;exact(a1,z25 a2,a)
 .have nb:b≠d:=λz=>by rw[z,yD]at e;cases e
  rw[jq nb]at e;exact(I.hok b u e).stay (λc v t q=>q) (λc q=>nd q (by intro _ z;cases z)) λc ys q=>nd q (by intro _ z;cases z)
theorem Inv.readopt(J:Inv X pins σ H2 s')(I:Inv X pins σ H s)(hd:H d=some (.lst xs))(h2:H2 d=none)(new:jk X.prog X.w (upd H2 d (.lst xs)) s'.heap d (.lst xs)):Inv X pins σ (upd H2 d (.lst xs)) s':=by
 have ne:∀{b:Addr},H b=none->b≠d:=λ{b} e z=>by rw[z,hd]at e;cases e
 have a:∀{b:Addr} {o:HO},H2 b=some o->upd H2 d (.lst xs) b=some o:=λ{b o} e=>by rw[zj (λz=>by rw[z,h2]at e;cases e)];exact e
 refine(J.ok,J.os,J.bare,(J.base.keep,J.base.slot,λb o e n f=>?_,J.base.there,λb ys e=>a (J.base.tups b ys e),λb o u e=>a (J.base.frzs b o u e),λb ps e=>?_),
  J.loc,J.cell,?_,λx c e=>?_,λp hp=>?_,λb u e=>?_,J.len)
 .rw [zj (ne (I.base.free b o e n f))];exact J.base.free b o e n f
 .obtain⟨more,z⟩:=J.base.tbls b ps e;exact(more,a z)
 .rw [zj (ne I.free)];exact J.free
 .rw [zj (ne (I.freeC x c e))];exact J.freeC x c e
 .obtain⟨a1,a2,h⟩:=J.pin p hp;exact(a1,by rw[zj (ne (I.pin p hp).2.1)];exact a2,h)
 .by_cases hb:b=d
  .subst hb;rw[zh]at e;cases e;exact new
  .rw [zj hb]at e;exact(J.hok b u e).stay (λc v t q=>q) (λc q=>a q) λc ys q=>a q
def ze8(i:Nat)(lf:Addr)(sp:Sp)(E:XK)(t:TA):TE:=λσ H Q=>σ[i]? =some (some (.ref lf))/\t σ H λvs H1=>∃d xs,H1 d=some (.lst xs)/\sp vs (hid H1 d) (λv H2=>H2 d=none->Q v (upd H2 d (.lst xs))) E
theorem zb9{CX:CXT}{k i:Nat}{lf:Addr}{sp:Sp}{E:XK}{x:Str}{p pos:Pos}{e:Expr}{es:List Expr}{t:TA}(W:WorkOk X.prog X.w X.K X.mg X.base CX k X.fs X.H₀ X.s₀ lf sp)(F:z1t CX X E)(O:X.ex= [])(hr:Room k X.A)(L:X.N[i]? =some x)(hv:Vis X.env.scope x)(ha:PA X (e::es) t)
  (hd: ~~~((x == ("__debug__":Str))=false)) (av: ~~~((x == ("__classdict__":Str))=false)) (he:(starEach (e::es) X.env=(false,eval e X.env)::starEach es X.env)⁻¹) (U:((backTo pos (starEach es X.env)).any (·.1)=false)⁻¹):
  PE X (.Call (.Name x p) (e::es) [] pos) (ze8 i lf sp E t):=by
 intro pins s σ H Q I h;obtain⟨h1,h⟩:=h;refine Qw (zf4 I L hv h1 (λu Y=>?_) hd av);cases (show u=Value.ref lf from Y);have un:∀{H1:Hp} {s1:Shared},Inv X pins σ H1 s1->Un X.fs [] X.H₀ H1 X.s₀.heap s1.heap:=λ{H1 s1} J=>by
  have:=J.base;rw[O]at this;exact this
 refine PySem.W.callWith_F (W.here s H (un I)) (thn (ha pos pins s σ H _ I h) ?_) he U;rintro us s1 ⟨vs,H1,a,r,d,xs,c,q⟩;refine(W.here s1 H1 (un a),?_);have f:=a.hide c;have same:∀s':Shared,(∀b o,s1.heap.get? b=some o->hid H1 d b=none->b∉frs X.stack->s'.heap.get? b=some o)->∀B:Hp,jk X.prog X.w B s'.heap d (.lst xs):=λs' kp B=>by
  obtain⟨C,its,n,D,l⟩:=(show jk X.prog X.w H1 s1.heap d (.lst xs)from a.hok d _ c);exact(C,its,n,D,kp d _ l yD λz=>by have:=a.stkFree d z;rw[c]at this;cases this)
 refine w1Q (w0n (W.run X.A X.stack s1 (hid H1 d) us vs _ E hr f.env0 (un f) r q) λr s' hq=>?_);cases r with
 | error e=>exact F pins σ _ s1 e s' f hq
 | ok R=>
  cases R with
  | ret u=>
   obtain⟨v,H2,c1,T,y,M,P,q2⟩:=hq;obtain⟨v',j,Z,S,e1,G⟩:=f.after (Q:=λv' H'=>v'=v/\H'=H2) (v,H2,c1,T,y,M,P,rfl,rfl);subst e1 G;have h2:j d=none:=by
    obtain⟨C,its,n,D,l⟩:=(show jk X.prog X.w H1 s1.heap d (.lst xs)from a.hok d _ c);exact y.free d _ l yD (by simp)
   exact(v',_,Z.readopt a c h2 (same s' (λb o e n nf=>y.keep b o e n nf (by simp)) _),S,q2 h2)
  | next=>exact False.elim hq
  | brk=>exact False.elim hq
  | cont=>exact False.elim hq
end
theorem Fun.okS0{P:Program}{w:World}{K:W.Frag}{mg:Str->Option Value}{base:Heap}{x qual:Str}{st:Stmt}{f:Addr}{fd:FuncData}{N ps:List Str}{k:Nat}{sp:SpS}(F:Fun K x qual st f fd)(S:FnScope N ps (zi st))(len:∀outer s vs H Q E,sp outer s vs H Q E->vs.length=ps.length)
  (a:∀(aa:Value) (A:Around) (outer:List Env) (s:Shared) (H:Hp) (vs:List V) (Q:VK) (E:XK),Room k (A.deeper (envOfC qual (zi st) s.heap.objs.size f aa))->sp outer s vs H Q E->
   ∃t,PSs (z3k CX0 P w K mg base N qual (zi st) f aa A outer s H E).nox (jO st) t/\t {nx:=λv H'=>Q .non H',rt:=Q} (start N vs) H):FnOkS P w K mg base CX0 (k+1) f fd ps sp:=
 F.okS S len λaa A outer s H vs Q E hr h=>by
  obtain⟨t,h1,q⟩:=a aa A outer s H vs Q E hr h;exact(t,h1.nox,q)
end L2

namespace L2
open PySem PySem.Spec PyProof.Rows
noncomputable def Ite(K:W.Frag)(b:Addr):It:=
 (λi H => ∃ ys y, SqL K H b ys /\ ys[i]? = some y,
  λi H v H'=>∃p y,v= .ref p/\H p=none/\H'=upd H p (.tup [.int (i:Int),y])/\∀ys,SqL K H b ys->ys[i]? =some y,
  λi H=>∃ys,SqL K H b ys/\ys.length<=i)
def zf2(e it b:Addr)(i:Nat)(h:Heap):Prop:=(∃a,IsEnum h e it (i:Int) a)/\h.IsListIter it b i
variable{elts:List Expr}{tp:Pos}
theorem zaB{P:Program}{w:World}{K:W.Frag}{x1}{e it b:Addr}(B:e≠it):
  Turn P w K (.Tuple elts x1 tp) (Ite K b) [e,it] e (zf2 e it b) where
 mem:=by simp
 obj:=λi h st c hc=>by
  obtain⟨⟨f,he⟩,⟨o2,j,Y,d2⟩⟩:=st;simp only[wL,qA,QQ]at hc;rcases hc with rfl|rfl
  .exact(_,he,λv q=>by cases q)
  .exact(o2,j,λv q=>by rw[d2]at q;cases q)
 keep:=λi h h' st k=>by
  obtain⟨⟨f,he⟩,h2⟩:=st;exact((f,k e (by simp) _ he),h2.at λo z=>k it (by simp) o z)
 item:=by
  intro X r u l hc i pins s σ H E I d st t;subst r u l;obtain⟨ys,y,a,A⟩:=t;obtain⟨G,p,q,D⟩:=I.list a;obtain⟨v,O,M⟩:=p.get A;obtain⟨⟨f,he⟩,h2⟩:=st;refine wpAny_pyNext_enum_item he h2 q.isList (by simpa using O) B λU J R S Z Q=>(_,rfl,?_)
  refine wpAny_letOwnedTupleGo_enum J λn C x=>?_
  have lt:∀{c o},s.heap.get? c=some o->c≠s.heap.objs.size:=λz=>qc (wQ z)
  have kk:∀c o,c∉ [e,it]->s.heap.get? c=some o->n.get? c=some o:=λc o hc z=>by
   simp only[wL,qA,QQ,not_or]at hc;exact x.extBut _ _ hc.1 (Q c o hc.1 hc.2 z)
  have F:n.get? s.heap.objs.size=some {cls:= .type "tuple",data:= .seq #[.int i s.toks,v]}:=x.extBut _ _ (w1G (lt he)) S;have fresh:H s.heap.objs.size=none:=I.hok.fresh (wA _);have L:Inv X pins σ (upd H s.heap.objs.size (.tup [.int (i:Int),y])) {s with heap:=n,toks:=s.toks+1}:=I.turnedLaid (t':=s.toks+1) (ch:= [e,it]) kk d (wA _) (jb (by show 2<=_;decide),[.int (i:Int) s.toks,v],.cons (_,rfl) (.cons M .nil),(_,F,rfl,0,rfl));refine(.ref s.heap.objs.size,_,L,rfl,(s.heap.objs.size,y,rfl,fresh,rfl,λuj h'=>?_),((v,by simpa using C),R.at λo z=>x.extBut _ o B.symm z),λc hc=>?_)
  .rw [I.list_inj h' a];exact A
  .have N:c≠s.heap.objs.size:=by
    simp only[wL,qA,QQ]at hc;obtain⟨o2,j,_⟩:=id h2;rcases hc with rfl|rfl
    .exact lt he
    .exact lt j
   rw[zj N];exact(d c hc).1
 done:=by
  intro X r u l hc i pins s σ H E I d st t;subst r u l;obtain⟨ys,a,T⟩:=t;obtain⟨G,p,q,D⟩:=I.list a;have hl:=p.length;obtain⟨⟨f,he⟩,h2⟩:=st;refine wpAny_pyNext_enum_end (I.ok.hd hc) he h2 q.isList (by simp;lia) λh' k=>(rfl,I.turnedL (t':=s.toks) (ch:= [e,it]) (λc o hc z=>?_) d)
  simp only[wL,qA,QQ,not_or]at hc;exact k c o hc.2 z
 self:=λm m m m m st h=>let ⟨(_,he),_⟩:=st;wpAny_pyIter_enum he h
variable{X:Cx}
section
variable{x1:Nat}
def zgd(K:W.Frag)(ta:TA):TI:=λσ H R=>ta σ H λvs H1=>∃b,vs= [.ref b]/\(∃ys,SqL K H1 b ys)/\R (Ite K b) H1
theorem zdi{b:Expr}{ta:TA}{p pos:Pos}(l:Gl X "enumerate")(hm:X.mg "enumerate"=none)(ha:PA X [b] ta)(hs:(starEach [b] X.env= [(false,eval b X.env)])⁻¹):
  PI X (.Tuple elts x1 tp) (.Call (.Name "enumerate" p) [b] [] pos) (zgd X.K ta):=by
 intro pins s σ H R I h;refine Call_ (z1d I l hm boot_enumerate (Qk (thn (ha pos pins s σ H _ I h) ?_) (by rw[hs];rfl) (by rfl)));rintro us s1 ⟨vs,H1,a,r1,q1⟩;obtain⟨l2,e,⟨ys,j⟩,q⟩:=q1;subst e;cases r1 with|cons i r2=>
 cases r2;cases i;obtain⟨o,r,pl,_⟩:=a.list j;refine call_enumerate_list pl.isList λh' c n t kk=>?_
 refine wpAny_pyIter_enum c ?_;refine(s1.heap.objs.size+1,[s1.heap.objs.size+1,s1.heap.objs.size],_,_,H1,rfl,a.kept (t':=s1.toks) kk,zaB (b:=l2) (Nat.succ_ne_self _),((_,c),n),λb f=>?_,q);have d:s1.heap.objs.size<=b:=by
  simp only[wL,qA,QQ]at f;rcases f with e|e<;>rw[e]
  .exact Nat.le_add_right _ 1
  .exact wA _
 exact a.fpOk d (a.hok.fresh d)
end
structure KnC(P:Program)(w:World)(K:W.Frag)(mg:Str->Option Value)(base:Heap)(k:Nat)(x:Str)(ps:List Str)(sp:Sp)(C:Addr):Prop where
 ex:∃(f:Addr) (fd:FuncData),Mk K C f/\FnOk P w K mg base CX0 k f fd ps sp/\mg x=some (.ref C)/\Binds K fd ps []
structure KnM(P:Program)(w:World)(K:W.Frag)(mg:Str->Option Value)(base:Heap)(k:Nat)(m:Str)(ps:List Str)(sp:Sp)(C:Addr):Prop where
 cls:Cls K C
 ex:∃(f:Addr) (fd:FuncData),Meth K C m f/\FnOk P w K mg base CX0 k f fd ps sp/\Binds K fd ps []
section
variable{k:Nat}{x m:Str}{ps:List Str}{sp:Sp}{e o:Expr}{es:List Expr}{t:TA}{ta:TE}{p pos apos:Pos}{C:Addr}
theorem yr(M:KnC X.prog X.w X.K X.mg X.base k x ps sp C)(hr:Room (k+1) X.A)(d:Gl X x)(ha:PA X (e::es) t)
  (c: ~~~((x == ("__debug__":Str))=false)) (he:(starEach (e::es) X.env=(false,eval e X.env)::starEach es X.env)⁻¹) (a:((backTo pos (starEach es X.env)).any (·.1)=false)⁻¹):
  PE X (.Call (.Name x p) (e::es) [] pos) (zex C sp [] E0 t):=by
 obtain⟨f,fd,M,F,hm,b⟩:=M.ex;exact zdH M F hr d hm b .nil z2N ha c he a
theorem zbL{pl:Sem Bool}(M:KnM X.prog X.w X.K X.mg X.base k m ps sp C)(hr:Room k X.A)(h:PE X o ta)(ha:PA X (e::es) t)
  (b:(starEach (e::es) X.env=(false,eval e X.env)::starEach es X.env)⁻¹) (d:((backTo pos (starEach es X.env)).any (·.1)=false)⁻¹)
  (ht:eval (.Call (.Attribute o m apos) (e::es) [] pos) X.env=(do
   let a<-eval o X.env
   standAt apos.atName
   let (f,first)<-holding [a] (getMethod a m pl)
   callWith pos f first (backTo pos (starEach (e::es) X.env)) (backToKw pos (keywordEach [] X.env))):=by rfl):
  PE X (.Call (.Attribute o m apos) (e::es) [] pos) (z9s C m sp [] E0 ta t):=by
 obtain⟨f,fd,hm,F,c⟩:=M.ex;exact zdO h M.cls hm F hr c .nil z2N ha b d ht
theorem zaT{pl:Sem Bool}(M:KnM X.prog X.w X.K X.mg X.base k m ps sp C)(hr:Room k X.A)(c:PE X o ta)
  (ht:eval (.Call (.Attribute o m apos) [] [] pos) X.env=(do
   let a<-eval o X.env
   standAt apos.atName
   let (f,first)<-holding [a] (getMethod a m pl)
   callWith pos f first (backTo pos (starEach [] X.env)) (backToKw pos (keywordEach [] X.env))):=by rfl):
  PE X (.Call (.Attribute o m apos) [] [] pos) (z9s C m sp [] E0 ta zfg):=by
 obtain⟨f,fd,hm,F,b⟩:=M.ex;exact zca c M.cls hm F hr b .nil z2N ht
end
end L2

namespace L2
open PySem PySem.Spec PyProof.Rows
noncomputable def Itv(K:W.Frag)(a:Addr)(n:Nat):It:=
 (λi H=>i<n/\∃xs x,SqL K H a xs/\xs[n-1-i]? =some x,λi H x H'=>H'=H/\∀xs,SqL K H a xs->xs[n-1-i]? =some x,λi v=>n<=i)
variable{tg:Expr}{K:W.Frag}
theorem zcg{P:Program}{w:World}(a it:Addr)(n:Nat):Turn P w K tg (Itv K a n) [it] it (λi h=>i<=n/\h.IsRevIter it a ((n:Int)-1-(i:Int))) where
 mem:=by simp
 obj:=λi h st b f=>by
  have e:b=it:=by simpa using f
  subst e;obtain⟨_,o,e,c,d⟩:=st;exact(o,e,λv z=>by rw[d]at z;cases z)
 keep:=λi h h' st k=>(st.1,st.2.at λo e=>k it (by simp) o e)
 item:=by
  intro X B C t hc i pins s σ H E I l st q;subst B C t;obtain⟨hi,xs,x,hq,F⟩:=q;obtain⟨its,M,p,hz⟩:=I.list hq;obtain⟨u,O,Q⟩:=M.get F;obtain⟨f0,f1,f2,A,r,y⟩:=l it (by simp);have D:(n:Int)-1-(i:Int)=((n-1-i:Nat):Int):=by lia
  have j:=st.2;rw[D]at j;refine wpAny_pyNext_rev_item j p.isList (x:=u) (by simpa using O) λh' G R=>?_
  have N:Inv X pins σ H {s with heap:=h'}:=I.turned (t':=s.toks) (λb o f e=>(R.2 b f).trans e) f0 f1 A r y;obtain⟨o,e,c,d⟩:=id G;have J:((n-1-i:Nat):Int)-1=(n:Int)-1-((i+1:Nat):Int):=by lia
  exact(u,rfl,z85 (s:={s with heap:=h'}) e c d (by decide) (x,H,N,Q,(rfl,λys L=>by rw[I.list_inj L hq];exact F),(hi,by rw[<-J];exact G),λb f=>(l b f).1))
 done:=by
  intro X B C t hc i pins s σ H E I l st q;subst B C t;have q:n<=i:=q;obtain⟨f0,f1,f2,A,r,y⟩:=l it (by simp);have D:(n:Int)-1-(i:Int)= -1:=by have:=st.1;lia
  have j:=st.2;rw[D]at j;exact wpAny_pyNext_rev_end (I.ok.hd hc) j λh' k=>(rfl,I.turned (t':=s.toks) (λb o f e=>k b o f e) f0 f1 A r y)
 self:=λv v v v v st h=>wpAny_pyIter_revIter st.2 h
section
variable{X:Cx}
def zgZ(K:W.Frag)(ta:TA):TI:=λσ H R=>ta σ H λvs H1=>∃a xs,vs= [.ref a]/\SqL K H1 a xs/\R (Itv K a xs.length) H1
theorem zeZ{b:Expr}{ta:TA}{p pos:Pos}(j:Gl X "reversed")(hm:X.mg "reversed"=none)(ha:PA X [b] ta)(hs:(starEach [b] X.env= [(false,eval b X.env)])⁻¹):
  PI X tg (.Call (.Name "reversed" p) [b] [] pos) (zgZ X.K ta):=by
 intro pins s σ H R I h;refine Call_ (z1d I j hm PyProof.Rows.boot_reversed (Qk (thn (ha pos pins s σ H _ I h) ?_) (by rw[hs];rfl) (by rfl)));rintro us s1 ⟨vs,H1,a,r1,q1⟩;obtain⟨l2,xs,e,n,q⟩:=q1;subst e;cases r1 with|cons d r2=>
 cases r2;cases d;obtain⟨c,f,pl,_⟩:=a.list n;have hl:=f.length;refine call_reversed_list pl.isList ?_;refine wpAny_pyIter_revIter (_,qh _ rfl,rfl,rfl) ?_;have l:((c.toArray.size:Nat):Int)-1=((xs.length:Nat):Int)-1-((0:Nat):Int):=by rw[wB];lia
 refine(s1.heap.objs.size,[s1.heap.objs.size],_,_,H1,rfl,a.kept (t':=s1.toks) λb o e=>wu _ e,zcg l2 _ xs.length,(qU _,by rw[<-l];exact(_,qh _ rfl,rfl,rfl)),λb i=>?_,q);have e:b=s1.heap.objs.size:=by simpa using i
 subst e;exact a.fpOk (wA _) (a.hok.fresh (wA _))
end
variable{H:Hp}
theorem zdS{a:Addr}{xs:List V}{g:TG}{tb:TS}{D:Ends}{σ:St}(b:Nat->St->Hp->Prop)(h0:b 0 σ H)(hl:∀i σ H,i<=xs.length->b i σ H->SqL K H a xs)
  (hs:∀i x σ H,xs.reverse[i]? =some x->b i σ H->g x σ H λσ2 H2=>tb {D with nx:=b (i+1),ct:=b (i+1),bk:=D.nx} σ2 H2) (hd:∀σ H,b xs.length σ H->D.nx σ H):
  ∃W:Nat->Nat->St->Hp->Prop,(∃m,W 0 m σ H)/\∀i m σ H,W i m σ H->
   ((Itv K a xs.length).stop i H/\D.nx σ H)\/((Itv K a xs.length).go i H/\∃N:St->Hp->Prop,(∀σ' H',N σ' H'->∃c,c<m/\W (i+1) c σ' H')/\∀x H',(Itv K a xs.length).yld i H x H'->g x σ H' λσ2 H2=>tb {D with nx:=N,ct:=N,bk:=D.nx} σ2 H2):=by
 refine(λi m σ H=>m=xs.length-i/\i<=xs.length/\b i σ H,(xs.length,by simp,qU _,h0),?_);rintro i m σ H ⟨rfl,hi,p⟩;have q:=hl i σ H hi p;by_cases af:i<xs.length
 .refine .inr ((af,xs,xs[xs.length-1-i],q,by rw[we (by lia)]),b (i+1),λσ' H' p'=>(xs.length-(i+1),by lia,rfl,af,p'),λx H' y=>?_);obtain⟨e,y⟩:=y;subst e;exact hs i x σ _ (by rw[List.getElem?_reverse af];exact y xs q) p
 .have e:i=xs.length:=by lia
  subst e;exact .inl (wA _,hd σ H p)
theorem zaA{b:Addr}{ys:List V}{tc:TT}{te:TE}{Q:List V->Hp->Prop}(a:Nat->List V->Hp->Prop)(h0:a 0 [] H)(hl:∀i zs H,i<=ys.length->a i zs H->SqL K H b ys/\zs.length<sizeLine)
  (hs:∀(i:Nat) y zs H p,ys[i]? =some y->a i zs H->H p=none->tc [some (.int (i:Int)),some y] (upd H p (.tup [.int (i:Int),y])) λc H2=>if c=true then te [some (.int (i:Int)),some y] H2 λz d=>a (i+1) (zs++[z]) d else a (i+1) zs H2) (hd:∀zs H,a ys.length zs H->Q zs H):
  z2t (Ite K b) (zfB K 2 (z7s (z24 0) (z7s (z24 1) zf3))) tc te Q [none,none] H:=by
 refine(zgK,λi m zs H=>m=ys.length-i/\i<=ys.length/\a i zs H,(_,_,rfl),(_,rfl,qU _,h0),?_);rintro i m zs σ H ⟨o1,o2,rfl⟩ ⟨rfl,hi,p⟩;obtain⟨f,hz⟩:=hl i zs H hi p;refine(hz,?_);by_cases af:i<ys.length
 .refine .inr ((ys,ys[i],f,by simp[af]),λy d=>a (i+1) (zs++[y]) d,λH2=>a (i+1) zs H2,λy d z=>(ys.length-(i+1),by lia,rfl,af,z),λH2 z=>(ys.length-(i+1),by lia,rfl,af,z),λx H' y=>?_);obtain⟨h,v,rfl,hp,rfl,j⟩:=y;exact(h,[.int (i:Int),v],rfl,SqT.of zh,rfl,_,[v],rfl,v,[],rfl,rfl,(_,_,rfl),hs i v zs H h (j ys f) p hp)
 .have e:i=ys.length:=by lia
  subst e;exact .inl ((ys,f,wA _),hd zs H p)
end L2

namespace L2
open PySem PySem.Spec PyProof.Rows
variable{X:Cx}
theorem z4v{K:W.Frag}{e:Expr}{f:Str}{pos:Pos}{ta:TE}(h:X.K=K)(he:PE X e ta)(a:attributeBase e f X.env (eval e X.env)=eval e X.env):PE X (.Attribute e f pos) (zgt K ta f):=by
 subst h;exact zA he a
theorem zd5:∀{bs:List Bool} {us:List Value},zM (bs.map V.bl) us->us=bs.map Value.bool
 | [],_,r=>by rw[w1F]at r;cases r;rfl
 | b::bs,_,r=>by
  rw[qF]at r;cases r with
  | cons r1 r2=>
   rw[zd5 r2,show _=Value.bool b from r1]
   rfl
theorem zcC(hc:X.calm=true):ki X (.builtin "all") (λxs H Q=>∃(a:Addr) (bs:List Bool),xs= [.ref a]/\SqL X.K H a (bs.map V.bl)/\Q (.bl (bs.all id)) H):=by
 intro pins s σ H xs us Q I r h;obtain⟨a,bs,rfl,hq,q⟩:=h;obtain⟨u,rfl,j⟩:=vals1 r;cases j;obtain⟨its,r',pl,hz⟩:=I.list hq;have l:=zd5 r';subst l;have n:a<s.heap.objs.size:=let ⟨o,ho,_⟩:=pl.isList;wQ ho
 refine call_all_walk (wpAny_pyIter_list pl.isList ?_);refine(s.heap.objs.size,_,_,_,_,_,λi=>bs.getD i false,rfl,Walks.list (A:=X.A.in1) (I.ok.hd hc) _ a (qc n) (bs.map Value.bool).toArray,((_,qh _ rfl,rfl,rfl),pl.isList.at λo e=>wu _ e),λi v s' t x c f=>?_,λh' tk p=>?_)
 .have c:((bs.map Value.bool).toArray)[i]? =some v:=c;rw[List.getElem?_toArray,wM]at c;cases d:bs[i]? with
  | none=>rw[d]at c;cases c
  | some b=>
   rw[d]at c;cases c;have e:bs.getD i false=b:=by rw[wn,d];rfl
   have f:t (bs.getD i false) s':=f;rw[e]at f;exact w0t f
 .have w:((List.range ((bs.map Value.bool).toArray.size)).all λi=>bs.getD i false)=bs.all id:=by
   rw[wB,w9,w09,qS,qS];constructor
   .intro h b d;obtain⟨i,hi,rfl⟩:=List.getElem_of_mem d;have:=h i (Qm.mpr hi)
    rwa [wn,we hi]at this
   .intro h i hi;have hi:=Qm.mp hi;rw[wn,we hi];exact h _ (wz hi)
  rw[w];refine(.bl (bs.all id),H,I.kept λb o e=>p b o (λz=>?_) (wu _ e),rfl,q);rw[ww.mp z]at e;exact absurd (wQ e) (QX _)
theorem zaQ:bootBuiltins "all"=some (.builtin "all"):=by decide
end L2

namespace L2
open PySem PySem.Spec PyProof.Rows
theorem z9P{v:V}{s:Str}:eqV v (.str s)=true↔v= .str s:=by
 cases v<;>simp[eqV]
def zeK(K:W.Frag):R2:=λx y H Q=>∃(a b:Addr) (xs:List V) (ss:List Str),x= .ref a/\y= .ref b/\SqT K H a xs/\SqT K H b (ss.map V.str)/\(∀v∈xs,ko v=true\/∃p zs,v= .ref p/\SqT K H p zs)/\∀t:Bool,(t=true↔xs=ss.map V.str)->Q (.bl t) H
variable{X:Cx}
theorem zbH{K:W.Frag}(w:X.K=K)(B:X.A.units+1<cLine):OpR X (compareOp .Eq) (zeK K):=by
 subst w;intro pins s σ H x y v u Q I C J h;have M:X.A.units<cLine:=by lia
 obtain⟨a,b,xs,ss,rfl,rfl,ha,N,L,q⟩:=h;cases C;cases J;obtain⟨its,r,pl,hz⟩:=I.tuple ha;obtain⟨E,r2,F,_⟩:=I.tuple N;have l1:=r.length;have l2:=r2.length;rw[w9]at l2;refine SeqAt.eq_tupleAt (e:=λj=>eqV (xs.getD j .non) ((ss.map V.str).getD j .non)) (show s.heap.IsTuple a its.toArray from pl) (show s.heap.IsTuple b E.toArray from F) M (λj h1 h2=>?_) (.bl _,H,I,rfl,q _ ?_)
 .rw [wB]at h1 h2;have z:j<xs.length:=by lia
  have c:j<ss.length:=by lia
  have i:xs[j]? =some xs[j]:=we z;have n:(ss.map V.str)[j]? =some (.str ss[j]):=by rw[wM,we c];rfl
  obtain⟨w1,P,d⟩:=r.get i;obtain⟨w2,t,l⟩:=r2.get n;rw[w0k,w0k,(wg.mp P).2,(wg.mp t).2,wn,wn,i,n];rcases L _ (qN i)with f|⟨p,zs,e,hp⟩
  .exact z6Y d l f rfl
  .show SeqAt.EqAt _ _ _ _ (eqV xs[j] (.str ss[j]))
   rw[e]at d ⊢;cases (show w1=Value.ref p from d);obtain⟨R,rfl⟩:=l;obtain⟨G,_,O,_⟩:=I.tuple hp;exact SeqAt.EqAt.tuple_str _ _ (show s.heap.IsTuple p G.toArray from O) (by show X.A.units+1<cLine;exact B)
 .rw [wB,wB,<-l1,<-l2];constructor
  .intro h;rw[Qb,qS,QC]at h;obtain⟨h1,h2⟩:=h;refine List.ext_getElem (by rw[w9];exact h2) λj D S=>?_
   have:=h1 j (Qm.mpr (by lia));have c:j<ss.length:=by lia
   rw[wn,wn,we D,wM,we c]at this;rw[List.getElem_map];exact z9P.mp this
  .rintro rfl;rw[w9,Qb,qS,QC];refine(λj o=>?_,rfl);have c:j<ss.length:=by have:=Qm.mp o;lia
   rw[wn,wM,we c];exact z9P.mpr rfl
def zfe(sp:Sp)(t:TA):TE:=λσ H Q=>t σ H λvs H1=>∃d xs,H1 d=some (.lst xs)/\sp (vs++[]) (hid H1 d) (λv H2=>H2 d=none->Q v (upd H2 d (.lst xs))) E0
theorem zbz{k:Nat}{x:Str}{ps:List Str}{sp:Sp}{e:Expr}{es:List Expr}{t:TA}{p pos:Pos}(C:Kn X.prog X.w X.K X.mg X.base k x ps sp)(hr:Room k X.A)(U:Gl X x)(ha:PA X (e::es) t)
  (Y: ~~~((x == ("__debug__":Str))=false)) (he:(starEach (e::es) X.env=(false,eval e X.env)::starEach es X.env)⁻¹) (P:((backTo pos (starEach es X.env)).any (·.1)=false)⁻¹):
  PE X (.Call (.Name x p) (e::es) [] pos) (zfe sp t):=by
 obtain⟨f,fd,F,hm,R,S⟩:=C.ex;intro pins s σ H Q I h;refine Qw (z3v I U hm ?_ Y);refine w1b (h₀:=X.base) I.ok.mod.kin R (thn (ha pos pins s σ H _ I h) ?_) he P;rintro us s1 ⟨vs,H1,a,r,d,xs,c,q⟩;refine(a.kIn,?_);have j:=a.hide c;have same:∀s':Shared,(∀b o,s1.heap.get? b=some o->hid H1 d b=none->b∉frs X.stack->s'.heap.get? b=some o)->∀B:Hp,jk X.prog X.w B s'.heap d (.lst xs):=λs' kp B=>by
  obtain⟨D,its,n,E,l⟩:=(show jk X.prog X.w H1 s1.heap d (.lst xs)from a.hok d _ c);exact(D,its,n,E,kp d _ l yD λz=>by have:=a.stkFree d z;rw[c]at this;cases this)
 have r2:zM (vs++[]) (us++[]):=r.append .nil;have hl:(us++[]).length=ps.length:=by rw[<-r2.length];exact F.len _ _ _ _ q
 refine w1Q (w0n (F.run X.A X.stack s1 (hid H1 d) (us,[]) (us++[]) (vs++[]) _ E0 hr j.env0 (S s1 us a.kIn hl) r2 q) λr s' hq=>?_);cases r with
 | error e=>exact z2N pins σ _ s1 e s' j hq
 | ok M=>
  cases M with
  | ret u=>
   obtain⟨v,H2,c1,O,y,J,L,q2⟩:=hq;obtain⟨v',i,T,N,Z,G⟩:=j.after (Q:=λv' H'=>v'=v/\H'=H2) (v,H2,c1,O,y,J,L,rfl,rfl);subst Z G;have h2:i d=none:=by
    obtain⟨D,its,n,E,l⟩:=(show jk X.prog X.w H1 s1.heap d (.lst xs)from a.hok d _ c);exact y.free d _ l yD (by simp)
   exact(v',_,T.readopt a c h2 (same s' (λb o e n nf=>y.keep b o e n nf (by simp)) _),N,q2 h2)
  | next=>exact False.elim hq
  | brk=>exact False.elim hq
  | cont=>exact False.elim hq
theorem z2F{prog:Program}{w:World}{A:Around}{E:Value->Shared->Prop}{s:Shared}{t sl:Addr}{items:Array Value}{a b:Value}{lo hi:Option Int}{Q:Value->Shared->Prop}(ht:IsTup s.heap t items)(hs:s.heap.IsSliceOf sl a b .none)(pl:IsPart a lo)(i:IsPart b hi)
  (c:HT.sIx items.size 0 lo=0/\HT.sIx items.size items.size hi=items.size) (h:Q (.ref t) s):wpAny (model prog w) A (getItem (.ref t) (.ref sl)) Q E s:=by
 obtain⟨os,e,f,hds⟩:=id hs;have j:s.TypeIs (.ref sl) "slice":=(os,e,f);unfold getItem
 try with_reducible refine QO ?_
 first|refine wD (q9 ?_)|skip
 refine wD (wpAny_sequenceKey ht.typeIs (by decide) ?_);refine wD (wpAny_callSpecial?_slot (name:=Str.ofString "__getitem__") ht.typeIs Ql
  (wpAny_call_entry Ql ht.typeIs entry_tuple_getitem ?_ (args_tuple_getitem _ _)))
 show wpAny _ _ (Builtin.Tuple.tupleItemsOf (.ref t) >>= _) _ _ s
 refine wD (tupleItemsOf_ ht ?_);refine wD (wpAny_typeOf j ?_);rw[qd (by decide)];refine wD (HT.sliceApplied_gen hs pl i ?_);have d:((((HT.sIx items.size 0 lo:Nat):Int) == 0&&(1:Int) == 1&&(HT.sIx items.size items.size hi-HT.sIx items.size 0 lo) == items.size)=true):=by
  rw[c.1,c.2];simp
 show wpAny _ _ (if(((HT.sIx items.size 0 lo:Nat):Int) == 0&&(1:Int) == 1&&(HT.sIx items.size items.size hi-HT.sIx items.size 0 lo) == items.size)=true then _ else _) _ _ s
 rw[qd d];refine wD ?_;unfold Builtin.Tuple.tupleIsExact;refine wD (wpAny_typeOf ht.typeIs (q9 ?_));rw[qd (by decide)];refine wD (wpAny_rule ?_);exact q9 (_,rfl,q9 h)
def zfT(K:W.Frag):V->Option Int->Option Int->Hp->VK->Prop:=λx lo hi H Q=>∃a xs,x= .ref a/\SqT K H a xs/\(HT.sIx xs.length 0 lo=0/\HT.sIx xs.length xs.length hi=xs.length)/\Q (.ref a) H
theorem zbW:SlR X (zfT X.K):=by
 intro pins s σ H x v f i lo hi sl Q I c hs pl d h;obtain⟨a,xs,rfl,b,e,q⟩:=h;cases c;obtain⟨its,r,ht,hz⟩:=I.tuple b;have hlen:its.toArray.size=xs.length:=by rw[wB];exact r.length.symm
 refine("tuple",_,Ql.lookup,ht.typeIs,?_);exact z2F ht hs pl d (by rw[hlen];exact e) (.ref a,H,I,rfl,q)
def ze0:SlR X (λx lo hi H Q=>zgf X.K x lo hi H Q\/zfT X.K x lo hi H Q):=z4W.or zbW
end L2

namespace L2
open PySem PySem.Spec PyProof.Rows
variable{X:Cx}{ps:List Str}{sp:Sp}
theorem zdR{k:Nat}{f d:Addr}{fd:FuncData}{pins:List (Addr×Obj)}{σ:St}{H1:Hp}{s1:Shared}{Q:VK}{us:List Value}{vs xs:List V}(F:FnOk X.prog X.w X.K X.mg X.base CX0 k f fd ps sp)(hr:Room k X.A)(G:Binds X.K fd ps [])
  (a:Inv X pins σ H1 s1) (r:zM vs us) (c:H1 d=some (.lst xs)) (q:sp (vs++[]) (hid H1 d) (λv H2=>H2 d=none->Q v (upd H2 d (.lst xs))) E0):wpAny (model X.prog X.w) X.A (call (.ref f) us) (EP X pins σ Q) X.xe s1:=by
 have i:=a.hide c;have same:∀s':Shared,(∀b o,s1.heap.get? b=some o->hid H1 d b=none->b∉frs X.stack->s'.heap.get? b=some o)->∀p:Hp,jk X.prog X.w p s'.heap d (.lst xs):=λs' kp p=>by
  obtain⟨s,its,n,t,j⟩:=(show jk X.prog X.w H1 s1.heap d (.lst xs)from a.hok d _ c);exact(s,its,n,t,kp d _ j yD λz=>by have:=a.stkFree d z;rw[c]at this;cases this)
 have r2:zM (vs++[]) (us++[]):=r.append .nil;have hl:(us++[]).length=ps.length:=by rw[<-r2.length];exact F.len _ _ _ _ q
 refine w1Q (w0n (F.run X.A X.stack s1 (hid H1 d) (us,[]) (us++[]) (vs++[]) _ E0 hr i.env0 (G s1 us a.kIn hl) r2 q) λr s' hq=>?_);cases r with
 | error e=>exact z2N pins σ _ s1 e s' i hq
 | ok C=>
  cases C with
  | ret u=>
   obtain⟨v,H2,c1,E,l,y,B,J⟩:=hq;obtain⟨v',h,H,D,I,x⟩:=i.after (Q:=λv' H'=>v'=v/\H'=H2) (v,H2,c1,E,l,y,B,rfl,rfl);subst I x;have h2:h d=none:=by
    obtain⟨s,its,n,t,j⟩:=(show jk X.prog X.w H1 s1.heap d (.lst xs)from a.hok d _ c);exact l.free d _ j yD (by simp)
   exact(v',_,H.readopt a c h2 (same s' (λb o e n nf=>l.keep b o e n nf (by simp)) _),D,J h2)
  | next=>exact False.elim hq
  | brk=>exact False.elim hq
  | cont=>exact False.elim hq
noncomputable def zeH(C:Addr)(m:Str)(sp:Sp)(ta:TE):TE:=λσ H Q=>ta σ H λx H1=>∃a dx fs d xs,x= .ref a/\H1 a=some (.ins C dx fs)/\fs.lookup m=none/\H1 d=some (.lst xs)/\sp [x] (hid H1 d) (λv H2=>H2 d=none->Q v (upd H2 d (.lst xs))) E0
theorem z7L{k:Nat}{m:Str}{o:Expr}{ta:TE}{pos apos:Pos}{C:Addr}{pl:Sem Bool}(M:KnM X.prog X.w X.K X.mg X.base k m ps sp C)(hr:Room k X.A)(i:PE X o ta)
  (ht:eval (.Call (.Attribute o m apos) [] [] pos) X.env=(do
   let c<-eval o X.env
   standAt apos.atName
   let (f,first)<-holding [c] (getMethod c m pl)
   callWith pos f first (backTo pos (starEach [] X.env)) (backToKw pos (keywordEach [] X.env))):=by rfl):
  PE X (.Call (.Attribute o m apos) [] [] pos) (zeH C m sp ta):=by
 obtain⟨f,fd,hm,F,j⟩:=M.ex;intro pins s σ H Q I h;refine PySem.W.methodCall_KW (pl:=pl) (thn (i pins s σ H _ I h) ?_) ht;rintro u s1 ⟨x,H1,b,e,a,dx,fs,d,xs,ex,n,l,p,q⟩;subst ex;obtain rfl:u=Value.ref a:=e;refine z2T b n M.cls hm l ?_;exact PySem.W.callWith_K0 (first:= [.ref a]) b.kIn hm.kp (zdR (us:= [.ref a]) (vs:= [.ref a]) F hr j b (.cons rfl .nil) p q)
end L2

namespace L2
open PySem PySem.Spec PyProof.Rows
inductive Ty3 (H:Hp):V->String->Prop
 | int (i:Int):Ty3 H (.int i) "int"
 | str (x:Str):Ty3 H (.str x) "str"
 | tup {a:Addr} {xs:List V} (e:H a=some (.tup xs)):Ty3 H (.ref a) "tuple"
theorem za3:∀{ns:List String} {its:List Value},zM (ns.map V.ty) its->its=ns.map Value.type
 | [],_,h=>by cases h;rfl
 | n::ns,_,h=>by
  cases h with
  | cons a r=>rw[show _=Value.type n from a,za3 r];rfl
variable{X:Cx}
theorem z1G{K:W.Frag}(f:X.K=K):ki X (.builtin "isinstance") (λxs H Q=>∃(x:V) (tp:Addr) (ns:List String) (t:String) (b:Bool),xs= [x,.ref tp]/\H tp=some (.tup (ns.map V.ty))/\Ty3 H x t/\PySem.W.kitAny K (.type t) (ns.map Value.type)=some b/\Q (.bl b) H):=by
 subst f;intro pins s σ H xs us Q I r h;obtain⟨x,tp,ns,t,b,rfl,ht,ty,e,q⟩:=h;obtain⟨u,A,rfl,c,w⟩:=vals2 r;cases (show A=Value.ref tp from w);obtain⟨_,its,p,⟨cl,E,D,sl⟩,h1,h2,n,d⟩:=I.hok tp _ ht;have l:its=ns.map Value.type:=za3 p;subst l;cases h2;cases d;have fin:∀tk,(λv s'=>∃y H',Inv X pins σ H' s'/\RelV y v/\Q y H') (Value.bool b) {s with toks:=tk}:=λtk=>(.bl b,H,I.tok _,rfl,q)
 cases ty with
 | int i=>obtain⟨t,q⟩:=(show∃t,u=Value.int i t from c);cases q;exact PySem.W.kia_tup PySem.W.kitx_int I.kIn w0e h1 e (λz=>nomatch z) fin
 | str y=>obtain⟨t,q⟩:=(show∃t,u=Value.str y t from c);cases q;exact PySem.W.kia_tup PySem.W.kitx_str I.kIn w0e h1 e (λz=>nomatch z) fin
 | @tup a xs C=>
  cases (show u=Value.ref a from c);obtain⟨_,_,_,o,j,B,_⟩:=I.hok a _ C;exact PySem.W.kia_tup PySem.W.kitx_tuple I.kIn (o,j,B) h1 e (λz=>nomatch z) fin
theorem zdw(l:Addr)(items:Array Value)(n:Nat)(b:Addr)(a:Array Value)(j:Nat){o:Option Addr}{sl:Array (Option Value)}(t:¬(!items.isEmpty&&Builtin.List.listTooLong (items.size+a.size))=true)(f:items.size<=sizeLine)(e:items.size+a.size<=sizeLine+1):
  Meets (Builtin.«list.extend» ([.ref l,.ref b],[])) (λv R s=>s.heap.get? l=some {cls:= .type "list",dict:=none,data:= .seq items n,slots:= #[]}/\s.heap.get? b=some {cls:= .type "tuple",dict:=o,data:= .seq a j,slots:=sl}/\R (.ok (.ret Value.none)) {s with heap:=s.heap.update l (Obj.mapSeq λx=>x++a),toks:=s.toks}):=
 .of_wp λprog w A R s h=>by
  obtain⟨hp,g,d,tk,os⟩:=s;obtain⟨hl,i,h⟩:=h;have f1:=AutoSeq1.idx_int;have f2:=AutoSeq1.sub_tuple_tuple;have r:=AutoSeq1.sub_list_list;have p:=AutoSeq1.sub_tuple_list;have q:=AutoSeq1.sub_list_tuple;have c:(items++a).size<=sizeLine+1:=by rw[Array.size_append];exact e
  wp_walk using (wpAny_updateSeq hl rfl (hz:=f) (_hz':=c)),AutoSeq1.wpAny_loadPart' hl,AutoSeq1.wpAny_loadPart' i
  exact(_,rfl,h)
noncomputable def zfP:V->List V->Hp->VK->Prop:=λx vs H Q=>∃l b xs zs,x= .ref l/\vs= [.ref b]/\H l=some (.lst xs)/\H b=some (.tup zs)/\xs.length+zs.length<=sizeLine/\Q .non (upd H l (.lst (xs++zs)))
theorem z8t:MtM X "list.extend" zfP:=by
 intro pins s σ H x vs v us Q I f i h;obtain⟨l,b,xs,zs,rfl,rfl,c,w,hz,q⟩:=h;cases f;obtain⟨u,rfl,p⟩:=i.one;cases p;obtain⟨z,its,n,r,hl,e⟩:=I.lstM c;obtain⟨C,a,r2,⟨cl,B,y,sl⟩,d,j,t,d2⟩:=I.hok b _ w;cases j;cases d2;have A:=r2.length;have hsz:its.toArray.size+a.toArray.size<=sizeLine:=by rw[wB,wB];lia
 have o:¬(!its.toArray.isEmpty&&Builtin.List.listTooLong (its.toArray.size+a.toArray.size))=true:=by
  rw[z7K hsz,Bool.and_false];exact wU
 refine w20 F.slot_list_extend (_,e,rfl) F.entry_list_extend (F.args_list_extend_2 _ _)
  (zdw l its.toArray n b a.toArray t o (by rw[wB];lia) (by lia)) (e,d,?_)
 refine(.non,_,I.lset (its':=its++a) c e (by simp) (r.append r2) ?_,rfl,q);rw[wm]
 lia
end L2

namespace L2
open PySem PySem.Spec PyProof.Rows
theorem Room.m{j k:Nat}{A:Around}(r:Room k A)(h:j<=k:=by first|decide|lia):Room j A:=r.mono h
end L2
namespace Q12
open PySem L2 Cn Rw Qs
noncomputable def top(i:Nat):Stmt:=PySem.Challenge.pw_sheetask_k10_whole_turnings_keep.main.body.getD i (.Pass (0,0,0,0))
noncomputable abbrev z2a:Stmt:=top 2
noncomputable abbrev z2Q:Stmt:=top 3
noncomputable abbrev z6P:Stmt:=top 4
noncomputable abbrev z1w:Stmt:=top 5
noncomputable abbrev ky:Stmt:=top 15
noncomputable abbrev z18:Stmt:=top 16
noncomputable abbrev z2R:Stmt:=top 17
noncomputable abbrev kN:Stmt:=top 19
noncomputable abbrev z0j:Stmt:=top 20
noncomputable abbrev z2f:Stmt:=top 21
noncomputable abbrev kW:Stmt:=top 22
noncomputable abbrev kP:Stmt:=top 23
noncomputable abbrev z30:Stmt:=top 24
noncomputable abbrev z1v:Stmt:=top 25
noncomputable abbrev z3N:Stmt:=top 27
noncomputable abbrev z4A:Stmt:=top 28
noncomputable abbrev z4r:Stmt:=top 29
noncomputable abbrev z23:Stmt:=top 30
noncomputable abbrev kT:Stmt:=top 31
noncomputable abbrev z02:Stmt:=top 32
noncomputable abbrev z70:Stmt:=top 33
noncomputable abbrev z5e:Stmt:=top 34
noncomputable abbrev z1b:Stmt:=top 35
noncomputable abbrev z0S:Stmt:=top 36
noncomputable abbrev z4P:Stmt:=top 37
noncomputable abbrev z0y:Stmt:=top 39
noncomputable abbrev z2P:Stmt:=top 41
noncomputable abbrev z56:Stmt:=top 43
noncomputable abbrev z2A:Stmt:=top 44
noncomputable abbrev z0L:Stmt:=top 45
noncomputable abbrev yY:Stmt:=top 47
noncomputable abbrev z0u:Stmt:=top 48
noncomputable abbrev z3q:Stmt:=top 49
noncomputable abbrev jS:Stmt:=top 50
noncomputable abbrev z0o:Stmt:=top 51
noncomputable abbrev z3W:Stmt:=top 52
noncomputable abbrev z0V:Stmt:=top 53
noncomputable abbrev kG:Stmt:=top 54
noncomputable abbrev z2d:Stmt:=top 56
noncomputable abbrev z0p:Stmt:=top 57
noncomputable abbrev z1J:Stmt:=top 58
noncomputable abbrev z1I:Stmt:=top 59
noncomputable abbrev z0K:Stmt:=top 60
noncomputable abbrev z1z:Stmt:=top 61
noncomputable abbrev z0M:Stmt:=top 62
noncomputable abbrev jL:Stmt:=top 63
noncomputable abbrev ku:Stmt:=top 64
noncomputable abbrev kJ:Stmt:=top 65
noncomputable abbrev z0i:Stmt:=top 66
noncomputable abbrev z1f:Stmt:=top 67
noncomputable abbrev z03:Stmt:=top 68
noncomputable abbrev yg:Stmt:=top 69
noncomputable abbrev z0b:Stmt:=top 70
noncomputable abbrev z1e:Stmt:=top 71
noncomputable abbrev z0J:Stmt:=top 72
noncomputable abbrev z1a:Stmt:=top 73
noncomputable abbrev z07:Stmt:=top 74
noncomputable abbrev yh:Stmt:=top 75
noncomputable abbrev z1F:Stmt:=top 76
noncomputable abbrev z2e:Stmt:=top 77
noncomputable abbrev z2j:Stmt:=top 78
noncomputable abbrev z5Y:Stmt:=top 79
structure Txt(K:W.Frag)(mg:Str->Option Value):Prop where
 isinstance:mg "isinstance"=none
 int:mg "int"=none
 bool:mg "bool"=none
 list:mg "list"=none
 tuple:mg "tuple"=none
 str:mg "str"=none
 len:mg "len"=none
 range:mg "range"=none
 min:mg "min"=none
 max:mg "max"=none
 sum:mg "sum"=none
 sorted:mg "sorted"=none
 reversed:mg "reversed"=none
 zip:mg "zip"=none
variable{P:Program}{w:World}{mg:Str->Option Value}{base:Heap}{a rs os:List (Addr×List Int)}{b:Bool}{H H' H0 H1 H2:Hp}{p D np l0 rp r0 r1 r2 dp d Tb T T1 T2 T3 C ah wl dx al T4:Addr}{xs ys ws us vs:List V}{i s t j hl:Nat}{Q:V->Prop}{α:Type}{n:Str}{tb:TS}{hs ns hq hr:List Str}{c:Cond}{x:List Int}{r q q' k' r':Qn}{th:Str->List Str}{tr:Str->List (List Int)}{sp:Sp}{y qv u:V}{rows acc:List (List Int)}{z:Int}{kvs:List (Key×V)}{o:Addr×List Int}{lp:Pos}{mk:Qn->Qn->Qn}{E:XK}{R:Addr->VK}
section
variable{K:W.Frag}{f:Addr}{fd:FuncData}
seal PE PA PS PSs PT PI PO PG
local macro_rules | `(tactic| walk_at "s")=>`(tactic| exact(rfl,rfl,rfl,by decide,rfl,by decide,by decide))
theorem nb{a b:Str}(h:(a == b)=false):a≠b:=Qe h
local macro_rules | `(tactic| walk_at "cn")=>`(tactic| exact⟨by intros;(try dsimp only [z3k,Cx.nox,Cx.wish]) <;> exact rfl⟩)
local macro_rules | `(tactic| walk_at "cl")=>`(tactic| with_reducible first | exact zf0 | exact zdV | exact zeu | exact zdp | exact zdu (by walk_at "ca") (by walk_at "cl") | exact zbg (by walk_at "ca") (by walk_at "cl") | exact zc9 (by walk_at "ca") (by walk_at "cl") | exact zbY (by walk_at "ca") (by walk_at "cl") | exact zeJ (by walk_at "ca") | exact zdW (by walk_at "ca") | exact zec (by walk_at "ca") | exact zdL (by walk_at "ca"))
local macro_rules | `(tactic| walk_at "ca")=>`(tactic| with_reducible first | exact zfM (by walk_at "cl") (by walk_at "cl") (by walk_at "cn") | exact zft (by walk_at "cl") (by walk_at "cl") (by walk_at "cn") | exact zf1 (by walk_at "cl") (by walk_at "cl") (by walk_at "cn") | exact zfu (by walk_at "cl") (by walk_at "cl") (by walk_at "cn") | exact zeV (by walk_at "cl") (by walk_at "cl") (by walk_at "cn") | exact ze7 (by walk_at "cl") (by walk_at "cl") (by walk_at "cn") | exact ca_ifJ3 (by walk_at "cl") (by walk_at "cl") (by walk_at "cn") | exact ca_ifJ4 (by walk_at "cl") (by walk_at "cl") (by walk_at "cn") | exact zbS (by walk_at "cl") (by walk_at "cn") | exact zaw (by walk_at "cl") (by walk_at "cn") | exact zb7 (by walk_at "cl") (by walk_at "cn") | exact ca_while4 (by walk_at "cl") (by walk_at "cn") | exact zfK (by walk_at "cl") (by walk_at "cn") | exact ca_for2 (by walk_at "cl") (by walk_at "cn") | exact zef (by walk_at "cl") (by walk_at "cn") | exact ca_for4 (by walk_at "cl") (by walk_at "cn") | walk_at "cn")
local macro_rules | `(tactic| clear $s:ident $v:ident $h:ident $q:ident $e:ident $x:ident $F:ident)=>`(tactic| refine Fun.okB $F $s (by intro _ _ _ _ h;cases h;subst_vars;rfl) (fun $v $h $q $e $x=> ?_))
local macro_rules | `(tactic| clear $a:ident $b:ident $c:ident $d:ident $e:ident)=>`(tactic| (refine(yG rfl,fun $a $b=> ?_);refine z86 (upd _ $a _) rfl $b fun $c $d $e=> ?_))
local macro_rules | `(tactic| clear $a:ident $b:ident $c:ident $d:ident $e:ident $_f:ident)=>`(tactic| refine z86 (upd _ $a _) rfl $b fun $c $d $e=> ?_)
def zv{i:Int}{v:V}(h:H p=some (.lst xs))(e:atI xs i=some v)(q:Q v):∃p' b a v',V.ref p= .ref p'/\V.int i= .int a/\SqL K H p' b/\atI b a=some v'/\Q v':=(p,xs,i,v,rfl,rfl,SqL.of h,e,q)
def zg{i:Int}{v:V}(h:H p=some (.tup xs))(e:atI xs i=some v)(q:Q v):∃p' b a v',V.ref p= .ref p'/\V.int i= .int a/\SqT K H p' b/\atI b a=some v'/\Q v':=(p,xs,i,v,rfl,rfl,SqT.of h,e,q)
def exr{P Q:α->Prop}{a:α}(h:P a)(q:Q a):∃x,P x/\Q x:=(a,h,q)
local macro_rules|`(!$x)=>`(exr rfl $x)
local macro_rules|`(tactic|done)=>`(tactic|walk_at "s")
local macro_rules|`(∅)=>`(by lia)|`(())=>`(by decide)|`(#[])=>`(by walk_at "cl")|`(⟨⟩)=>`(by walk_at "sl")
local macro_rules|`(tactic|show $e)=>`(tactic|refine $e)
def ex2{β:Type}{A:α->Prop}{B:β->Prop}{Q:α->β->Prop}{a:α}{b:β}(h1:A a)(h2:B b)(q:Q a b):∃x y,A x/\B y/\Q x y:=(a,b,h1,h2,q)
local macro_rules|`(~~~$x)=>`(ex2 rfl rfl $x)
theorem z2q(f:α->V)(xs:List α)(lo hi:Option Int):z1W (xs.map f) lo hi=((xs.drop (HT.sIx xs.length 0 lo)).take (HT.sIx xs.length xs.length hi-HT.sIx xs.length 0 lo)).map f:=by
 unfold z1W;rw[w9,QZ,List.map_drop]
inductive spWide (K:W.Frag) (vs:List V) (H:Hp) (Q:VK) (E:XK):Prop
 | mk:∀a (ns:List Int) few bd,vs= [.ref a,.int few,.int bd]->SqL K H a (ns.map V.int)->ns.length<=63->0<=few->few<=bd->(∀(m:Int) (H':Hp),zw H H'->0<=m->m<=few+40->Q (.int m) H')->spWide K vs H Q E
theorem z75:FnScope ["_law_script","_law_few","_law_bound"] ["_law_script","_law_few","_law_bound"] (zi z2d):=by done
theorem z6S(F:Fun K "_law_wide" "_law_wide" z2d f fd)(T:Txt K mg):FnOk P w K mg base CX0 1 f fd ["_law_script","_law_few","_law_bound"] (spWide K):=by
 clear z75 vs H Q E h F;obtain⟨a,ns,few,bd,rfl,i,o,h0,n,q⟩:=h;intro aa A outer l hr;show(_,(zc (zB (cmT z5Q (leN T.len (za v0 zb)) zd)
   (zf (zp v2))
   zt)
  (zf (zp (ixL (zC (za v1 (zK (zF (z5R rfl) rfl T.min PyProof.Rows.boot_min (yq (zo yw v1 zd) (za v2 zb))) zb))) (jj z5S rfl T.int w1k (z9v (cmE zO (zo zW (zF (z1X rfl) rfl T.sum w0I (zl (jt yI v0 jW (jI zd)) zb)) zd) zd) zb)))))),?_)
 generalize hK0:K=K1
 revert K1
 show jd #[] ?_;have hl:(ns.map V.int).length=ns.length:=w9 _;show !(a,!(.inl i,~~~(!?_)));show ifF (wK (by rw[hl];lia)) ?_;show !(!(~~~(!(_,!((yG rfl),λlp j=>?_)))));have a1:=zz j (.lst [V.int few,V.int (if bd<few+40 then bd else few+40)]);show !(!(a,!(a1.seq i,λcp e=>?_)));rw[z2q];show(cp,!(SqL.of zh,~~~((by change(0:Int)<16;decide),rfl,.inr (!?_))));have a2:=a1.trans (zz e (.lst (((ns.drop (HT.sIx ns.length 0 none)).take (HT.sIx ns.length ns.length (some 3)-HT.sIx ns.length 0 none)).map V.int)));obtain⟨b,d⟩:∃b,decide (V.int (((ns.drop (HT.sIx ns.length 0 none)).take (HT.sIx ns.length ns.length (some 3)-HT.sIx ns.length 0 none)).sum%16)=V.int 5)=b:=(_,rfl)
 dsimp only at d ⊢;rw[d];have c:=(zz e (.lst (((ns.drop (HT.sIx ns.length 0 none)).take (HT.sIx ns.length ns.length (some 3)-HT.sIx ns.length 0 none)).map V.int))) lp _ zh;cases b with
 | true=>show zv c j8 (q _ _ a2 (by split<;>lia) (by split<;>lia))
 | false=>show zv c zH (q _ _ a2 ∅ ∅)
variable{σ:St}
theorem z54{lo:Int}{n:Nat}{g:TG}{D:Ends}(a:Nat->St->Hp->Prop)(h0:a 0 σ H)
  (hs:∀i σ H (b:Ends),(∀σ H,a (i+1) σ H->b.nx σ H)->(∀v H,D.rt v H->b.rt v H)->i<n->a i σ H->g (.int (lo+i)) σ H λσ2 H2=>tb b σ2 H2) (hd:∀σ H,a n σ H->D.nx σ H):
  ∃W:Nat->Nat->St->Hp->Prop,(∃m,W 0 m σ H)/\∀i m σ H,W i m σ H->
   ((Itr lo n).stop i H/\D.nx σ H)\/((Itr lo n).go i H/\∃N:St->Hp->Prop,(∀σ' H',N σ' H'->∃c,c<m/\W (i+1) c σ' H')/\∀x H',(Itr lo n).yld i H x H'->g x σ H' λσ2 H2=>tb {D with nx:=N,ct:=N,bk:=D.nx} σ2 H2):=
 z2v a h0 (λi σ H hi p=>hs i σ H _ (λu u z=>z) (λu u z=>z) hi p) hd
theorem z1M{a:Addr}{g:TG}{D:Ends}(b:Nat->St->Hp->Prop)(h0:b 0 σ H)(hl:∀i σ H,i<=xs.length->b i σ H->SqL K H a xs)
  (hs:∀i x σ H (c:Ends),(∀σ H,b (i+1) σ H->c.nx σ H)->(∀v H,D.rt v H->c.rt v H)->xs[i]? =some x->b i σ H->g x σ H λσ2 H2=>tb c σ2 H2) (hd:∀σ H,b xs.length σ H->D.nx σ H):
  ∃W:Nat->Nat->St->Hp->Prop,(∃m,W 0 m σ H)/\∀i m σ H,W i m σ H->
   ((Itl K a).stop i H/\D.nx σ H)\/((Itl K a).go i H/\∃N:St->Hp->Prop,(∀σ' H',N σ' H'->∃d,d<m/\W (i+1) d σ' H')/\∀x H',(Itl K a).yld i H x H'->g x σ H' λσ2 H2=>tb {D with nx:=N,ct:=N,bk:=D.nx} σ2 H2):=
 z1Y b h0 hl (λi x σ H hi p=>hs i x σ H _ (λu u z=>z) (λu u z=>z) hi p) hd
theorem zcj{a:Addr}{g:TG}{D:Ends}(b:Nat->St->Hp->Prop)(h0:b 0 σ H)(hl:∀i σ H,i<=xs.length->b i σ H->SqT K H a xs)
  (hs:∀i x σ H (c:Ends),(∀σ H,b (i+1) σ H->c.nx σ H)->(∀v H,D.rt v H->c.rt v H)->xs[i]? =some x->b i σ H->g x σ H λσ2 H2=>tb c σ2 H2) (hd:∀σ H,b xs.length σ H->D.nx σ H):
  ∃W:Nat->Nat->St->Hp->Prop,(∃m,W 0 m σ H)/\∀i m σ H,W i m σ H->
   ((Itt K a).stop i H/\D.nx σ H)\/((Itt K a).go i H/\∃N:St->Hp->Prop,(∀σ' H',N σ' H'->∃d,d<m/\W (i+1) d σ' H')/\∀x H',(Itt K a).yld i H x H'->g x σ H' λσ2 H2=>tb {D with nx:=N,ct:=N,bk:=D.nx} σ2 H2):=
 z9L b h0 hl (λi x σ H hi p=>hs i x σ H _ (λu u z=>z) (λu u z=>z) hi p) hd
def z7B{I:St->Hp->Prop}{D:Ends}(h:∀a:Ends,(∀σ H,I σ H->a.nx σ H)->(∀v H,D.rt v H->a.rt v H)->tb a σ H):∃N:St->Hp->Prop,(∀σ' H',N σ' H'->I σ' H')/\tb {D with nx:=N,ct:=N,bk:=D.nx} σ H:=(I,λu u z=>z,h _ (λu u z=>z) (λu u z=>z))
def exJ{A:(St->Hp->Prop)->Prop}{B:St->Hp->Prop}(J:St->Hp->Prop)(h:∀a:St->Hp->Prop,(∀σ H,J σ H->a σ H)->A a)(k:∀σ H,J σ H->B σ H):∃J,A J/\∀σ H,J σ H->B σ H:=(J,h J λv v z=>z,k)
theorem zc2:("(":Str).length=1:=by decide
theorem z9Y:(")":Str).length=1:=by decide
theorem z1B:(" ":Str).length=1:=by decide
theorem zf7:("less":Str).length=4:=by decide
theorem zeX:("same":Str).length=4:=by decide
theorem zfR:("not":Str).length=3:=by decide
theorem zgn:("and":Str).length=3:=by decide
theorem zh1:("or":Str).length=2:=by decide
theorem zfj:("(pick ":Str).length=6:=by decide
theorem zeT:("(cols ":Str).length=6:=by decide
theorem zfE:("(sort ":Str).length=6:=by decide
theorem zei:("(first ":Str).length=7:=by decide
theorem zeI:("(both ":Str).length=6:=by decide
theorem zfz:("(pair ":Str).length=6:=by decide
theorem zeN:("(join ":Str).length=6:=by decide
theorem zdB:("(group ":Str).length=7:=by decide
theorem zeg:("(pick (same ":Str).length=12:=by decide
theorem zgI:(") ":Str).length=2:=by decide
theorem l_n:("n":Str).length=1:=by decide
theorem l_s:("s":Str).length=1:=by decide
theorem zh3:(" n":Str).length=2:=by decide
theorem zgY:(" s":Str).length=2:=by decide
local macro_rules | `(tactic| walk_at "sl")=>`(tactic| (simp only [w1n,zc2,z9Y,z1B,zf7,zeX,zfR,zgn,zh1,zfj,zeT,zfE,zei,zeI,zfz,zeN,zdB,zeg,zgI,l_n,l_s,zh3,zgY,PySem.sizeLine_eq];try lia))
theorem z9g:∀i∈nums,(toString i:Str).length<=31/\i.natAbs.log2<1920:=by decide
theorem z0h:∀i∈z0t,(toString i:Str).length<=31/\i.natAbs.log2<1920:=by decide
theorem z1m(hn:∀n∈hs,n.length<=10):∀{a:Side},Side.small hs a->(Side.txt a).length<=31
 | .nm s,h=>wY (hn s h) ()
 | .nu i,h=>(z9g i h).1
theorem kj{hs:List Str}(hn:∀n∈hs,n.length<=10):∀{c:Cond},jA hs c->(yu c).length<=80*c.size
 | .less a b,h=>by
  have h1:=z1m hn h.1;have h2:=z1m hn h.2;simp only[yu,ends,Cond.size]
  (walk_at "sl")
 | .same a b,h=>by
  have h1:=z1m hn h.1;have h2:=z1m hn h.2;simp only[yu,ends,Cond.size]
  (walk_at "sl")
 | .no c,h=>by
  have h1:=kj hn (c:=c) h;simp only[yu,Cond.size]
  (walk_at "sl")
 | .an c d,h=>by
  have h1:=kj hn (c:=c) h.1;have h2:=kj hn (c:=d) h.2;simp only[yu,Cond.size]
  (walk_at "sl")
 | .or c d,h=>by
  have h1:=kj hn (c:=c) h.1;have h2:=kj hn (c:=d) h.2;simp only[yu,Cond.size]
  (walk_at "sl")
theorem zdr:inV (.str "less") [.str "less",.str "same"]=true:=by decide
theorem zdz:inV (.str "same") [.str "less",.str "same"]=true:=by decide
theorem zfr:inV (.str "not") [.str "less",.str "same"]=false:=by decide
theorem zfs:inV (.str "and") [.str "less",.str "same"]=false:=by decide
theorem zfN:inV (.str "or") [.str "less",.str "same"]=false:=by decide
noncomputable def wordOf:Cond->Str
 | .less _ _=>"less"
 | .same _ _=>"same"
 | .no _=>"not"
 | .an _ _=>"and"
 | .or _ _=>"or"
noncomputable def subs:Cond->List Cond
 | .no c=> [c]
 | .an c d=> [c,d]
 | .or c d=> [c,d]
 | _=> []
structure Seen(hs:List Str)(H:Hp)(c:Cond)(v:V)(p:Addr)(xs:List V):Prop where
 e:v= .ref p
 h:H p=some (.tup (.str (wordOf c)::xs))
 lf:inV (.str (wordOf c)) [.str "less",.str "same"]=c.leaf
 sd:c.leaf=true->∃a b,xs= [Side.v a,Side.v b]/\Side.small hs a/\Side.small hs b/\yu c="(" ++ wordOf c ++ " " ++ ends a b ++ ")"/\(c= .less a b\/c= .same a b)
 pt:c.leaf=false->xs.length=(subs c).length/\(∀(i:Nat) x,xs[i]? =some x->∃d,(subs c)[i]? =some d/\zE H d x/\d.size+1<=c.size/\jA hs d)/\
  yu c="(" ++ wordOf c ++ " " ++ Str.join " " ((subs c).map yu) ++ ")"
theorem seen{v:V}(h:zE H c v)(f:jA hs c):∃p xs,Seen hs H c v p xs:=by
 cases c with
 | less a b=>
  obtain⟨p,rfl,h⟩:=h;show(p,_,rfl,h,zdr,λu=>(a,b,rfl,f.1,f.2,rfl,.inl rfl),λz=>(by cases z))
 | same a b=>
  obtain⟨p,rfl,h⟩:=h;show(p,_,rfl,h,zdz,λu=>(a,b,rfl,f.1,f.2,rfl,.inr rfl),λz=>(by cases z))
 | no c=>
  obtain⟨p,x,rfl,h,h1⟩:=h;show(p,_,rfl,h,zfr,λz=>(by cases z),λu=>(rfl,λi y e=>?_,rfl))
  match i,e with
  | 0,e=>cases e;show(c,rfl,h1,wA _,f)
 | an c d=>
  obtain⟨p,x,y,rfl,h,h1,h2⟩:=h;show(p,_,rfl,h,zfs,λz=>(by cases z),λu=>(rfl,λi y e=>?_,rfl))
  match i,e with
  | 0,e=>cases e;show(c,rfl,h1,by simp only[Cond.size];lia,f.1)
  | 1,e=>cases e;show(d,rfl,h2,by simp only[Cond.size];lia,f.2)
 | or c d=>
  obtain⟨p,x,y,rfl,h,h1,h2⟩:=h;show(p,_,rfl,h,zfN,λz=>(by cases z),λu=>(rfl,λi y e=>?_,rfl))
  match i,e with
  | 0,e=>cases e;show(c,rfl,h1,by simp only[Cond.size];lia,f.1)
  | 1,e=>cases e;show(d,rfl,h2,by simp only[Cond.size];lia,f.2)
theorem z80{a:Side}(b:Side.small hs a):zbv (Side.v a) (Side.txt a):=by
 cases a with
 | nm s=>show .inr rfl
 | nu i=>show .inl (i,rfl,(z9g i b).2,rfl)
theorem z58(x:V)(r:List V):z1W (x::r) (some 1) none=r:=by
 unfold z1W;rw[show HT.sIx (x::r).length 0 (some 1)=1 by unfold HT.sIx;simp];rw[HT.sIx_none,List.drop_succ_cons,w1r,wP,w1c,qf]
theorem z5b{x:V}{r:List V}:¬(HT.sIx (x::r).length 0 (some 1)=0/\HT.sIx (x::r).length (x::r).length none=(x::r).length):=by
 rw[show HT.sIx (x::r).length 0 (some 1)=1 by unfold HT.sIx;simp];rintro⟨z,_⟩;cases z
theorem z9X(c:Cond):(subs c).length<=2:=by cases c<;>simp[subs]
theorem zeY(c:Cond):(((subs c).map yu).map (·.length)).sum+((subs c).map yu).length*1<=(Str.join " " ((subs c).map yu)).length+1:=by
 cases c with
 | less a b=>simp[subs]
 | same a b=>simp[subs]
 | no c=>simp[subs,Str.join]
 | an c d=>
  simp only[subs,qF,w1F,Str.join,w1n,z1B,Qj,w0c,wP,QN]
  lia
 | or c d=>
  simp only[subs,qF,w1F,Str.join,w1n,z1B,Qj,w0c,wP,QN]
  lia
inductive spSpelt (K:W.Frag) (n:Nat) (vs:List V) (H:Hp) (Q:VK) (E:XK):Prop
 | mk:∀v hs c,vs= [v]->zE H c v->jA hs c->(∀n∈hs,n.length<=10)->c.size<=n->c.size<=1000->(∀H',zw H H'->Q (.str (yu c)) H')->spSpelt K n vs H Q E
theorem z1g:FnScope ["_law_condition","_law_ends","_law_parts"] ["_law_condition"] (zi kJ):=by done
theorem z4c(F:Fun K "_law_spelt" "_law_spelt" kJ f fd)(T:Txt K mg)(n:Nat)(e:Kn P w K mg base n "_law_spelt" ["_law_condition"] (spSpelt K n)):FnOk P w K mg base CX0 (n+1) f fd ["_law_condition"] (spSpelt K (n+1)):=by
 clear z1g vs H Q E h F;obtain⟨v,hs,c,rfl,hc,u,hn,hsz,O,q⟩:=h;obtain⟨p,xs,rfl,hp,lf,sd,pt⟩:=seen hc u;have wl:(wordOf c).length<=4:=by cases c<;>simp only[wordOf]<;>decide
 intro aa A outer R hr;show(_,(zc (zB (z01 kR (ixT v0 zd) (zC (zr zn (zr zn zb))) (by with_unfolding_all rfl))
   (zc (seT 1 z1g (zo zm (zo zm (jj z2C rfl T.str qP (zl (ixT v0 zd) zb)) zn) (jj z2C rfl T.str qP (zl (ixT v0 zd) zb))))
   (zf (zp (zo zm (zo zm (zo zm (zo zm zn (ixT v0 zd)) zn) v1) zn))))
   zt)
  (zc (y0 (j:=2) rfl z1g.nd rfl (w0g rfl) (CompSc.of (sx:=zi kJ) (NX:= ["_law_condition","_law_ends","_law_parts"]) (fr:= []) (ix:= []) rfl rfl ()) (z3I (jt z4W v0 (jI zd) jW)) (λk k k k k k=>jh) (λk k k k k k=>(zS e hr.m (za v0 zb))))
  (zf (zp (zo zm (zo zm (zo zm (zo zm zn (ixT v0 zd)) zn) (kg PySem.F.plainAttrs_str PySem.F.slot_str_join PySem.F.type_str_join z9B zn (za v2 zb))) zn))))),?_)
 generalize hK0:K=K1
 revert K1
 show jd #[] ?_;show(_,rfl,p,_,_,_,rfl,rfl,SqT.of hp,zH,(yG rfl),λlp G=>?_);have a1:=zz G (.lst [V.str "less",V.str "same"]);have r:=a1 _ _ hp;show(lp,_,rfl,.inl (SqL.of zh),rfl,(by rfl),_,rfl,?_);dsimp -proj only;rw[wW wU,lf];cases bA:c.leaf with
 | true=>
  obtain⟨a,b,rfl,sa,o,es,_⟩:=sd bA;have la:=z1m hn sa;have lb:=z1m hn o;show ifT rfl ?_;show(_,rfl,p,_,_,_,rfl,rfl,SqT.of r,j8,_,_,rfl,z80 sa,_,_,rfl,rfl,⟨⟩,_,rfl,p,_,_,_,rfl,rfl,SqT.of r,jF,_,_,rfl,z80 o,_,_,rfl,rfl,⟨⟩,?_);show(_,rfl,p,_,_,_,rfl,rfl,SqT.of r,zH,_,_,rfl,rfl,⟨⟩,_,_,rfl,rfl,⟨⟩,_,rfl,_,_,rfl,rfl,⟨⟩,_,_,rfl,rfl,⟨⟩,?_);have:=q _ a1;rw[es]at this;show this
 | false=>
  obtain⟨hl,J,es⟩:=pt bA;show ifF rfl ?_;have N:=z9X c;show(_,rfl,_,rfl,p,_,rfl,SqT.of r,z5b,λcp D=>?_);rw[z58];have a2:=a1.trans (zz D (.tup xs));have s:upd (upd H lp (.lst [V.str "less",V.str "same"])) cp (.tup xs) cp=some (.tup xs):=zh;show(cp,rfl,(_,SqT.of s),?_);show z3H (xs:=xs) (λi ys H'=>zw (upd (upd H lp (.lst [V.str "less",V.str "same"])) cp (.tup xs)) H'/\ys=((subs c).take i).map λd=>V.str (yu d)) (zw.refl _,rfl) ?_ ?_ ?_
  .rintro i ys H' hi ⟨l,rfl⟩;show(SqT.of (l _ _ s),zG (by rw[w9,wV];lia))
  .rintro i x ys H' hi ⟨l,rfl⟩;obtain⟨d,hd,L,S,z⟩:=J i x hi;show(_,rfl,x,hs,d,rfl,L.same (a2.trans l),z,hn,∅,∅,λM y=>(l.trans y,?_));rw[wR,hd,wF]
   rfl
  .rintro ys H' ⟨l,rfl⟩ rp B;rw[hl,qf];have t:=a2.trans (l.trans (zz B (.lst ((subs c).map λd=>V.str (yu d)))));have I:=t _ _ hp;have C:((subs c).map λd=>V.str (yu d))=((subs c).map yu).map V.str:=by rw[Qp];rfl
   have o:=kj hn u;rw[es]at o;simp only[w1n,zc2,z9Y,z1B]at o;show(_,rfl,p,_,_,_,rfl,rfl,SqT.of I,zH,_,_,rfl,rfl,⟨⟩,_,_,rfl,rfl,⟨⟩,rfl,_,rfl,_,_,(subs c).map yu,rfl,rfl,SqL.of (by rw[<-C];show zh),?_,_,_,rfl,rfl,⟨⟩,_,_,rfl,rfl,⟨⟩,?_)
   .have:=zeY c;simp only[z1B]
    lia
   .have:=q _ t;rw[es]at this;show this
theorem z2I(F:Fun K "_law_spelt" "_law_spelt" kJ f fd)(T:Txt K mg)(a:∀k sp,FnOk P w K mg base CX0 k f fd ["_law_condition"] sp->Kn P w K mg base k "_law_spelt" ["_law_condition"] sp):∀n,FnOk P w K mg base CX0 n f fd ["_law_condition"] (spSpelt K n)
 | 0=>(λvs H Q E h=>by obtain⟨v,hs,c,rfl,_⟩:=h;rfl,λA outer s H args us vs Q E hr he b d h=>by
  obtain⟨v,hs,c,_,_,_,_,hz,_⟩:=h;have:=c.size_pos
  lia)
 | n+1=>z4c F T n (a n _ (z2I F T a n))
inductive spTrue (K:W.Frag) (n:Nat) (vs:List V) (H:Hp) (Q:VK) (E:XK):Prop
 | mk:∀v hp rp hs (rs:List Int) c,vs= [v,.ref hp,.ref rp]->zE H c v->jA hs c->H hp=some (.lst (hs.map V.str))->H rp=some (.lst (rs.map V.int))->rs.length=hs.length->c.size<=n->(∀H',zw H H'->Q (.bl (ev hs rs c)) H')->spTrue K n vs H Q E
theorem zdm:decide (V.str "same"=V.str "less")=false:=by decide
theorem zeq:decide (V.str "and"=V.str "not")=false:=by decide
theorem zdN:decide (V.str "or"=V.str "not")=false:=by decide
theorem zgi:decide (V.str "and"=V.str "or")=false:=by decide
theorem kH:FnScope ["_law_condition","_law_heads","_law_row","_law_word","_law_sides","_law_part","_law_told"] ["_law_condition","_law_heads","_law_row"] (zi z0i):=by done
theorem z4R(F:Fun K "_law_true" "_law_true" z0i f fd)(T:Txt K mg)(n:Nat)(e:Kn P w K mg base n "_law_true" ["_law_condition","_law_heads","_law_row"] (spTrue K n)):FnOk P w K mg base CX0 (n+1) f fd ["_law_condition","_law_heads","_law_row"] (spTrue K (n+1)):=by
 clear kH vs H Q E h F;obtain⟨v,hp,rp,hs,rs,c,rfl,hc,sm,Z,U,J,hsz,q⟩:=h;obtain⟨p,xs,rfl,S,lf,sd,pt⟩:=seen hc sm;intro aa A outer sh hr;show(_,(zc (seT 3 kH (ixT v0 zd))
  (zc (zB (z01 kR v3 (zC (zr zn (zr zn zb))) (by with_unfolding_all rfl))
   (zc (seT 4 kH (zC zb))
   (zc (foR (z3I (jt z4W v0 (jI zd) jW)) (gnM 5 kH)
    (zf (zB (zX (zF zI rfl T.isinstance wI (za v5 (za (zY (v:= .ty "str") rfl T.str qP rfl) zb))))
     (zf (j7 (apP v4 (zl (ixL v2 (kg wO qG qI yf v1 (za v5 zb))) zb))))
     (zf (j7 (apP v4 (za v5 zb)))))))
   (zc (zB (cmT zO v3 zn)
    (zf (zp (cmE z6h (ixL v4 zd) (ixL v4 zd))))
    zt)
   (zf (zp (cmE zO (ixL v4 zd) (ixL v4 zd)))))))
   zt)
  (zc (y0 (j:=6) rfl kH.nd rfl (w0g rfl) (CompSc.of (sx:=zi z0i) (NX:= ["_law_condition","_law_heads","_law_row","_law_word","_law_sides","_law_part","_law_told"]) (fr:= ["_law_heads","_law_row"]) (ix:= [1,2]) rfl rfl ()) (z3I (jt z4W v0 (jI zd) jW)) (λg g g g g g=>jh) (λg g g g g g=>(zS e hr.m (za v0 (za v1 (za v2 zb))))))
  (zc (zB (cmT zO v3 zn)
   (zf (zp (z8y (ixL (pv 6) zd))))
   zt)
  (zc (zB (cmT zO v3 zn)
   (zf (zp (z4y kR jv (pv 6) (by with_unfolding_all rfl))))
   zt)
  (zf (zp (z4y kD jv (pv 6) (by with_unfolding_all rfl))))))))),?_)
 generalize hK0:K=K1
 revert K1
 show jd #[] ?_;show !(zg S zH ?_);show !((yG rfl),λlp bB=>?_);have a1:=zz bB (.lst [V.str "less",V.str "same"]);show(lp,!(.inl (SqL.of zh),rfl,(by rfl),!?_));generalize upd H lp (.lst [V.str "less",V.str "same"])=H1 at a1 ⊢;have Y:=a1 _ _ S;have fU:=a1 _ _ Z;have eC:=a1 _ _ U;rw[wW wU,lf];cases bA:c.leaf with
 | true=>
  obtain⟨a,b,rfl,sa,sb,_,cQ⟩:=sd bA;show ifT rfl ?_;show((yG rfl),λsp z=>?_);have b1:=zz z (.lst []);have bf:=b1 _ _ Y;show !(!(p,!(SqT.of bf,z5b,λcp y=>?_)));rw[z58];have b2:=b1.trans (zz y (.tup [Side.v a,Side.v b]));have C:cp≠sp:=(zq zh y).symm;have L:upd (upd H1 sp (.lst [])) cp (.tup [Side.v a,Side.v b]) sp=some (.lst []):=by rw[zj C.symm];show zh
  have o:upd (upd H1 sp (.lst [])) cp (.tup [Side.v a,Side.v b]) cp=some (.tup [Side.v a,Side.v b]):=zh;generalize upd (upd H1 sp (.lst [])) cp (.tup [Side.v a,Side.v b])=H2 at b2 L o ⊢;show(cp,rfl,(_,SqT.of o),zcj (K:=K) (a:=cp) (xs:= [Side.v a,Side.v b]) (λi σ H'=>∃o5:Option V,σ= [some (.ref p),some (.ref hp),some (.ref rp),some (.str (wordOf c)),some (.ref sp),o5,none]/\zw H1 H'/\H' cp=some (.tup [Side.v a,Side.v b])/\H' sp=some (.lst (([num hs rs a,num hs rs b].take i).map V.int)))
   (none,rfl,b2,o,L) (λi σ H' _ ⟨_,_,_,h,_⟩=>SqT.of h) ?_ ?_)
  .rintro i x σ H' D G _ hi ⟨o5,rfl,s',B,l⟩;have key:∃d:Side,x=Side.v d/\Side.small hs d/\ [num hs rs a,num hs rs b].take (i+1)= [num hs rs a,num hs rs b].take i++[num hs rs d]:=by
    match i,hi with
    | 0,hi=>cases hi;show(a,rfl,sa,rfl)
    | 1,hi=>cases hi;show(b,rfl,sb,rfl)
   obtain⟨d,rfl,N,O⟩:=key;have M:=s' _ _ fU;have bR:=s' _ _ eC;have I:((([num hs rs a,num hs rs b].take i).map V.int)).length<sizeLine:=zG (by rw[w9,wV];simp only[wP,QN];lia);cases d with
   | nm s=>
    show !(_,_,_,!(TyOf.str s,jr,!?_));show ifT rfl ?_;have bo:hs.idxOf s<rs.length:=by rw[J];show qC.mpr N
    have R:=ji N;show !(.inl (rfl,_,SqL.of l),!(!(.inl (rfl,_,SqL.of M),!(hp,_,_,hs.idxOf s,rfl,rfl,SqL.of M,rfl,zV hs,R.1,R.2,zv bR (zR (int_at bo)) (sp,~~~(l,I,?_))))));show G _ _ (!(s'.put z,by rw[zj C];show B,by rw[zh,O,wF];rfl))
   | nu k=>
    show !(_,_,_,!(TyOf.int k,kh,!?_));show ifF rfl ?_;show !(.inl (rfl,_,SqL.of l),!(sp,~~~(l,I,?_)));show G _ _ (!(s'.put z,by rw[zj C];show B,by rw[zh,O,wF];rfl))
  .rintro σ H' ⟨o5,rfl,s',B,l⟩;show !(rfl,!?_);have u:=q _ (a1.trans s');rcases cQ with rfl|rfl
   .refine ifT rfl ?_;show !(zv l zH (!(zv l j8 (ex2 rfl rfl u))))
   .refine ifF zdm ?_;show !(zv l zH (!(zv l j8 (rfl,qbl z3o u))))
 | false=>
  obtain⟨hl,pR,es⟩:=pt bA;show ifF rfl ?_;have nE:=z9X c;show !(!(p,!(SqT.of Y,z5b,λcp y=>?_)));rw[z58];have a2:=zz y (.tup xs);have o:upd H1 cp (.tup xs) cp=some (.tup xs):=zh;generalize upd H1 cp (.tup xs)=H2 at a2 o ⊢;show(cp,rfl,(_,SqT.of o),?_);show z3H (xs:=xs) (λi ys H'=>zw H2 H'/\ys=((subs c).take i).map λd=>V.bl (ev hs rs d)) (zw.refl _,rfl) ?_ ?_ ?_
  .rintro i ys H' hi ⟨r,rfl⟩;show(SqT.of (r _ _ o),zG (by rw[w9,wV];lia))
  .rintro i x ys H' hi ⟨r,rfl⟩;obtain⟨d,hd,av,Ab,pT⟩:=pR i x hi;have t:=a1.trans (a2.trans r);show !(!(!(x,hp,rp,hs,rs,d,rfl,av.same t,pT,t _ _ Z,t _ _ U,J,∅,λH3 s3=>(r.trans s3,?_))));rw[wR,hd,wF]
   rfl
  .rintro ys H' ⟨r,rfl⟩ tp aw;rw[hl,qf];have a3:=a1.trans (a2.trans (r.trans (zz aw (.lst ((subs c).map λd=>V.bl (ev hs rs d))))));have u:=q _ a3;have X:((subs c).map λd=>V.bl (ev hs rs d)).all ko=true:=by
    rw[List.all_map,qS];intro d _
    rfl
   show !(rfl,!?_);cases c with
   | less a b=>cases bA
   | same a b=>cases bA
   | no c=>
    show ifT rfl ?_;show !(zv zh zH (!u))
   | an c d=>
    show ifF zeq ?_;show !(rfl,!?_);show ifF zgi ?_;show !(tp,!(.inl (SqL.of zh),rfl,X,qbl ?_ u))
    change(not (inV (V.bl false) [V.bl (ev hs rs c),V.bl (ev hs rs d)]))=(ev hs rs c&&ev hs rs d)
    cases ev hs rs c<;>cases ev hs rs d<;>rfl
   | or c d=>
    show ifF zdN ?_;show !(rfl,!?_);show ifT rfl ?_;show !(tp,!(.inl (SqL.of zh),rfl,X,qbl ?_ u))
    change inV (V.bl true) [V.bl (ev hs rs c),V.bl (ev hs rs d)]=(ev hs rs c||ev hs rs d)
    cases ev hs rs c<;>cases ev hs rs d<;>rfl
theorem z3p(F:Fun K "_law_true" "_law_true" z0i f fd)(T:Txt K mg)(a:∀k sp,FnOk P w K mg base CX0 k f fd ["_law_condition","_law_heads","_law_row"] sp->Kn P w K mg base k "_law_true" ["_law_condition","_law_heads","_law_row"] sp):∀n,FnOk P w K mg base CX0 n f fd ["_law_condition","_law_heads","_law_row"] (spTrue K n)
 | 0=>(λvs H Q E h=>by obtain⟨v,hp,rp,hs,rs,c,rfl,_⟩:=h;rfl,λA outer s H args us vs Q E hr he b d h=>by
  obtain⟨v,hp,rp,hs,rs,c,_,_,_,_,_,_,hz,_⟩:=h;have:=c.size_pos
  lia)
 | n+1=>z4R F T n (a n _ (z3p F T a n))
theorem z8L{xs:List α}{i:Int}(h0:0<=i)(h1:i<(xs.length:Int)):∃(h:i.toNat<xs.length),atI xs i=some xs[i.toNat]:=by
 have h:i.toNat<xs.length:=by lia
 show(h,z9z h0 (we h))
theorem z1K{i n:Int}(h:0<n):0<=i%n/\i%n<n:=(Int.emod_nonneg _ ∅,Int.emod_lt_of_pos _ h)
theorem zfm{i:Int}(h0:0<=i)(h1:i<6):∃m∈nums,atI (nums.map V.int) i=some (.int m):=by
 obtain⟨h,e⟩:=z8L (xs:=nums.map V.int) h0 (by change i<6;show h1);show(nums[i.toNat]'(by simpa using h),wz _,?_);rw[e,List.getElem_map]
theorem z1C{i:Int}(c:hs≠ []):∃s∈hs,atI (hs.map V.str) (i%(((hs.map V.str).length:Nat):Int))=some (.str s):=by
 have hl:0<hs.length:=w06.mpr c;have hm:(0:Int)<(((hs.map V.str).length:Nat):Int):=by rw[w9];lia
 obtain⟨a,b⟩:=z1K (i:=i) hm;obtain⟨h,e⟩:=z8L (xs:=hs.map V.str) a b;show(hs[(i%(((hs.map V.str).length:Nat):Int)).toNat]'(by simpa using h),wz _,?_);rw[e,List.getElem_map]
inductive spAsking (K:W.Frag) (vs:List V) (H:Hp) (Q:VK) (E:XK):Prop
 | mk:∀hp a6 (hs:List Str),vs= [.ref hp,.int a6]->H hp=some (.lst (hs.map V.str))->hs≠ []->(∀(v:V) (c:Cond) (H':Hp),zw H H'->zE H' c v->jA hs c->c.size<=5->Q v H')->spAsking K vs H Q E
theorem jg:FnScope ["_law_heads","_law_seed","_law_one","_law_other","_law_number","_law_first","_law_second","_law_menu"] ["_law_heads","_law_seed"] (zi z1f):=by done
theorem z4N(F:Fun K "_law_asking" "_law_asking" z1f f fd)(T:Txt K mg):FnOk P w K mg base CX0 1 f fd ["_law_heads","_law_seed"] (spAsking K):=by
 clear jg vs H Q E h F;obtain⟨hp,a6,hs,rfl,G,N,q⟩:=h;have hlen:(0:Int)<(((hs.map V.str).length:Nat):Int):=by
  have:=w06.mpr N;rw[w9];lia
 have tl:∀(x:Nat),x<=20->x<=sizeLine:=λx h=>jb ∅
 obtain⟨one,L,e1⟩:=z1C (i:=a6) N;obtain⟨other,J,e2⟩:=z1C (i:=a6/3+1) N;obtain⟨num,C,Z⟩:=zfm (z1K (i:=a6/2) (n:=6) ()).1 (z1K (i:=a6/2) (n:=6) ()).2;intro aa A outer sh hr;show(_,(zc (seT 2 jg (ixL v0 (zo zW v1 (leN T.len (za v0 zb)))))
  (zc (seT 3 jg (ixL v0 (zo zW (zo yw (zo jZ v1 zd) zd) (leN T.len (za v0 zb)))))
  (zc (seT 4 jg (ixL (zC (zr zd (zr zd (ze4 (z69 z3U zd) (zr zd (yq (z4t ((),(),())) (zr zd zb))))))) (zo zW (zo jZ v1 zd) zd)))
  (zc (seT 5 jg (zD (zr zn (za v2 (za v4 zb)))))
  (zc (seT 6 jg (zD (zr zn (za v2 (za v3 zb)))))
  (zc (seT 7 jg (zC (za v5 (za (pv 6) (zQ (zD (zr zn (zQ (zD (zr zn (za v3 (za v4 zb)))) (zQ (zD (zr zn (za v5 zb))) zb)))) zb)))))
  (zc (seT 7 jg (zo kF (pv 7) (zC (zQ (zD (zr zn (za v5 (za (pv 6) zb)))) (zQ (zD (zr zn (zQ (zD (zr zn (za v4 (za v3 zb)))) zb))) zb)))))
  (zc (seT 7 jg (zo kF (pv 7) (zC (zQ (zD (zr zn (zQ (zD (zr zn (za v2 (za v3 zb)))) (zQ (zD (zr zn (za (pv 6) (za v5 zb)))) zb)))) zb))))
  (zc (seT 7 jg (zo kF (pv 7) (zC (zQ (zD (zr zn (za v4 (zr zd zb)))) (za (pv 6) (zQ (zD (zr zn (za (pv 6) (za v5 zb)))) zb))))))
  (zf (zp (ixL (pv 7) (zo zW (zo jZ v1 zd) zd))))))))))))),?_)
 generalize hK0:K=K1
 revert K1
 show jd #[] ?_;show !(!(!(hp,!(.inl (SqL.of G),_,!(rfl,hlen,zv G e1 ?_)))));show !(!(_,!(rfl,((),()),_,!(rfl,!(hp,!(.inl (SqL.of G),_,!(rfl,hlen,zv G e2 ?_)))))));show !(tl 6 (),λl0 f0=>?_);clear l0 f0 H0 n0 x0 l0;replace x0:H0 l0=some (.lst (nums.map V.int)):=x0;show !(_,!(rfl,((),()),_,!(rfl,(by change(0:Int)<6;decide),l0,nums.map V.int,_,!(rfl,SqL.of x0,Z,?_))));show !(!(tl _ (by simp),λI f1=>?_));clear I f1 H1 n1 x1 I;show !(!(tl _ (by simp),λD f2=>?_));clear D f2 H2 n2 x2 D;show !(!(!(!(tl _ (by simp),λY f3=>?_))));clear Y f3 H3 n3 x3 Y;show !(tl _ (by simp),λR f4=>?_);clear R f4 H4 n4 x4 R;show(tl _ (by simp),λS f5=>?_);clear S f5 H5 n5 x5 S;show(tl _ (by simp),λM f6=>?_);clear M f6 H6 n6 x6 M;show !(!(!(tl _ (by simp),λO f7=>?_)));clear O f7 H7 n7 x7 O;show !(!(tl _ (by simp),λU f8=>?_));clear U f8 H8 n8 x8 U;show(tl _ (by simp),λX f9=>?_);clear X f9 H9 n9 x9 X;show(tl _ (by simp),λl pV=>?_);clear l pV H10 bt dL l;show(M,l,_,!(rfl,(bt _ _ (n9 _ _ (n8 _ _ (n7 _ _ x6)))),dL,tl _ (by simp),λc pW=>?_));clear c pW H11 aY fX c;show !(!(!(tl _ (by simp),λy lP=>?_)));clear y lP H12 n12 x12 y;show !(!(tl _ (by simp),λB lQ=>?_));clear B lQ H13 aA x13 B;show(tl _ (by simp),λo pX=>?_);clear o pX H14 aZ iF o;show(tl _ (by simp),λj pY=>?_);clear j pY H15 bi x15 j;show(c,j,_,!(rfl,(bi _ _ (aZ _ _ (aA _ _ (n12 _ _ fX)))),x15,tl _ (by simp),λd pZ=>?_));clear d pZ H16 bH x16 d;show !(!(tl _ (by simp),λz r6=>?_));clear z r6 H17 bj x17 z;show !(!(!(tl _ (by simp),λs r9=>?_)));clear s r9 H18 bD x18 s;show(tl _ (by simp),λe ra=>?_);clear e ra H19 bu x19 e;show(d,e,_,!(rfl,(bu _ _ (bD _ _ (bj _ _ x16))),x19,tl _ (by simp),λr rb=>?_));clear r rb H20 bv x20 r;have y1:=(bv _ _ (bu _ _ (bD _ _ (bj _ _ (bH _ _ (bi _ _ (aZ _ _ (aA _ _ (n12 _ _ (aY _ _ (bt _ _ (n9 _ _ (n8 _ _ (n7 _ _ (n6 _ _ (n5 _ _ (n4 _ _ (n3 _ _ (n2 _ _ x1)))))))))))))))))));have y2:=(bv _ _ (bu _ _ (bD _ _ (bj _ _ (bH _ _ (bi _ _ (aZ _ _ (aA _ _ (n12 _ _ (aY _ _ (bt _ _ (n9 _ _ (n8 _ _ (n7 _ _ (n6 _ _ (n5 _ _ (n4 _ _ (n3 _ _ x2))))))))))))))))));have y3:=(bv _ _ (bu _ _ (bD _ _ (bj _ _ (bH _ _ (bi _ _ (aZ _ _ (aA _ _ (n12 _ _ (aY _ _ (bt _ _ (n9 _ _ (n8 _ _ (n7 _ _ (n6 _ _ (n5 _ _ (n4 _ _ x3)))))))))))))))));have y4:=(bv _ _ (bu _ _ (bD _ _ (bj _ _ (bH _ _ (bi _ _ (aZ _ _ (aA _ _ (n12 _ _ (aY _ _ (bt _ _ (n9 _ _ (n8 _ _ (n7 _ _ (n6 _ _ (n5 _ _ x4))))))))))))))));have y5:=(bv _ _ (bu _ _ (bD _ _ (bj _ _ (bH _ _ (bi _ _ (aZ _ _ (aA _ _ (n12 _ _ (aY _ _ (bt _ _ (n9 _ _ (n8 _ _ (n7 _ _ (n6 _ _ x5)))))))))))))));have y6:=(bv _ _ (bu _ _ (bD _ _ (bj _ _ (bH _ _ (bi _ _ (aZ _ _ (aA _ _ (n12 _ _ (aY _ _ (bt _ _ (n9 _ _ (n8 _ _ (n7 _ _ x6))))))))))))));have y7:=(bv _ _ (bu _ _ (bD _ _ (bj _ _ (bH _ _ (bi _ _ (aZ _ _ (aA _ _ (n12 _ _ (aY _ _ (bt _ _ (n9 _ _ (n8 _ _ x7)))))))))))));have y8:=(bv _ _ (bu _ _ (bD _ _ (bj _ _ (bH _ _ (bi _ _ (aZ _ _ (aA _ _ (n12 _ _ (aY _ _ (bt _ _ (n9 _ _ x8))))))))))));have y9:=(bv _ _ (bu _ _ (bD _ _ (bj _ _ (bH _ _ (bi _ _ (aZ _ _ (aA _ _ (n12 _ _ (aY _ _ (bt _ _ x9)))))))))));have um:=(bv _ _ (bu _ _ (bD _ _ (bj _ _ (bH _ _ (bi _ _ (aZ _ _ (aA _ _ (n12 _ _ (aY _ _ dL))))))))));have uo:=(bv _ _ (bu _ _ (bD _ _ (bj _ _ (bH _ _ (bi _ _ (aZ _ _ (aA _ _ (n12 _ _ fX)))))))));have re:=(bv _ _ (bu _ _ (bD _ _ (bj _ _ (bH _ _ (bi _ _ (aZ _ _ (aA _ _ x12))))))));have rf:=(bv _ _ (bu _ _ (bD _ _ (bj _ _ (bH _ _ (bi _ _ (aZ _ _ x13)))))));have rg:=(bv _ _ (bu _ _ (bD _ _ (bj _ _ (bH _ _ (bi _ _ iF))))));have EK:=(bv _ _ (bu _ _ (bD _ _ (bj _ _ (bH _ _ x15)))));have EL:=(bv _ _ (bu _ _ (bD _ _ (bj _ _ x16))));have Ac:=(bv _ _ (bu _ _ (bD _ _ x17)));have Ad:=(bv _ _ (bu _ _ x18));have EM:=(bv _ _ x19);have b:=n0.trans (n1.trans (n2.trans (n3.trans (n4.trans (n5.trans (n6.trans (n7.trans (n8.trans (n9.trans (bt.trans (aY.trans (n12.trans (aA.trans (aZ.trans (bi.trans (bH.trans (bj.trans (bD.trans (bu.trans (bv))))))))))))))))))));have t:zE H20 (.less (.nm one) (.nu num)) (.ref I):=(I,rfl,y1);have p:zE H20 (.same (.nm one) (.nm other)) (.ref D):=(D,rfl,y2);have u:jA hs (.less (.nm one) (.nu num)):=(L,C);have okS:jA hs (.same (.nm one) (.nm other)):=(L,J);have rj:(1:Int)∈nums:=by decide
 obtain⟨i0,i1⟩:=z1K (i:=a6/5) (n:=9) ();show !(!(_,!(rfl,((),()),_,!(rfl,(by change(0:Int)<9;decide),?_))));obtain⟨ix,a⟩:∃ix,a6/5%9=ix:=(_,rfl)
 rw[a]at i0 i1;have gM:ix=0\/ix=1\/ix=2\/ix=3\/ix=4\/ix=5\/ix=6\/ix=7\/ix=8:=by lia
 rcases gM with rfl|rfl|rfl|rfl|rfl|rfl|rfl|rfl|rfl
 .exact zv x20 (by change atI _ (a6/5%9)=_;rw[a];rfl) (q _ _ _ b t u (by simp[Cond.size]))
 .exact zv x20 (by change atI _ (a6/5%9)=_;rw[a];rfl) (q _ _ _ b p okS (by simp[Cond.size]))
 .exact zv x20 (by change atI _ (a6/5%9)=_;rw[a];rfl) (q _ (.an (.same (.nm other) (.nu num)) (.no (.less (.nm one) (.nu num)))) _ b (_,_,!(y5,(!y3),(_,!(y4,t)))) ((J,C),u) (by simp only[Cond.size];decide))
 .exact zv x20 (by change atI _ (a6/5%9)=_;rw[a];rfl) (q _ (.or (.less (.nm one) (.nu num)) (.same (.nm one) (.nm other))) _ b (_,_,!(y7,t,p)) (u,okS) (by simp only[Cond.size];decide))
 .exact zv x20 (by change atI _ (a6/5%9)=_;rw[a];rfl) (q _ (.no (.less (.nu num) (.nm other))) _ b (_,!(y9,(!y8))) (C,J) (by simp only[Cond.size];decide))
 .exact zv x20 (by change atI _ (a6/5%9)=_;rw[a];rfl) (q _ (.an (.less (.nm one) (.nm other)) (.or (.same (.nm one) (.nm other)) (.less (.nm one) (.nu num)))) _ b (_,_,!(rg,(!re),(_,_,!(rf,p,t)))) ((L,J),okS,u) (by simp only[Cond.size];decide))
 .exact zv x20 (by change atI _ (a6/5%9)=_;rw[a];rfl) (q _ (.same (.nu num) (.nu 1)) _ b (!Ac) (C,rj) (by simp only[Cond.size];decide))
 .exact zv x20 (by change atI _ (a6/5%9)=_;rw[a];rfl) (q _ _ _ b p okS (by simp[Cond.size]))
 .exact zv x20 (by change atI _ (a6/5%9)=_;rw[a];rfl) (q _ (.an (.same (.nm one) (.nm other)) (.less (.nm one) (.nu num))) _ b (_,_,!(Ad,p,t)) (okS,u) (by simp only[Cond.size];decide))
def yj{fs:List (Addr×List Int)}(a:H np=none)(n:zw H H')(x:H' np=some (.lst (refs fs)))(hm:∀r∈fs,H r.1=some (.lst (r.2.map V.int))):RowsAt H' np fs:=
 (x,λr m=>(zq (hm r m) a,n _ _ (hm r m)))
def z1c{x y z u:α}{r:List α}:atI (x::y::z::u::r) 3=some u:=zR (j:=3) rfl
theorem z17(f:α->Bool)(xs:List α){x:α}(h:xs[i]? =some x):(xs.take (i+1)).filter f=(xs.take i).filter f++(if f x=true then [x]else []):=by
 rw[wR,h,w0J]
 congr 1
 change List.filter f [x]=_
 rw[w1v]
 rfl
theorem zbu(rs:List (Addr×List Int)):(rs.filter λr=>ev hs r.2 c).map (·.2)=(rs.map (·.2)).filter λr=>ev hs r c:=by
 rw[w00]
 rfl
inductive spPicked (K:W.Frag) (vs:List V) (H:Hp) (Q:VK) (E:XK):Prop
 | mk:∀th tr q v a6,vs= [v,.int a6]->TabOk th tr->StAt th tr H v q->okQ th q->(zy q).length<=4000000->(rowsOf th tr q).length<=100000->(∀(v':V) (c:Cond) (H':Hp),zw H H'->StAt th tr H' v' (.pick c q)->jA (ze th q) c->c.size<=6->Q v' H')->spPicked K vs H Q E
theorem yl:FnScope ["_law_state","_law_seed","_law_condition","_law_rows","_law_line"] ["_law_state","_law_seed"] (zi z03):=by done
theorem z4I(F:Fun K "_law_picked" "_law_picked" z03 f fd)(T:Txt K mg)(a:Kn P w K mg base 1 "_law_asking" ["_law_heads","_law_seed"] (spAsking K))(d:Kn P w K mg base 7 "_law_true" ["_law_condition","_law_heads","_law_row"] (spTrue K 7))(b:Kn P w K mg base 7 "_law_spelt" ["_law_condition"] (spSpelt K 7)):
  FnOk P w K mg base CX0 8 f fd ["_law_state","_law_seed"] (spPicked K):=by
 clear yl vs H Q E h F;obtain⟨th,tr,q,v,a6,rfl,TT,aD,hok,fY,R,fin⟩:=h;obtain⟨p,qv,hp,rp,rs,rfl,h1,h2,G,B,s⟩:=aD;obtain⟨ai,nY⟩:=jz TT hok;have cG:=ja TT hok;have O:(refs rs).length=rs.length:=w9 _;have bQ:rs.length<=100000:=by rw[<-s,w9]at R;show R
 intro aa A outer sh hr;have hu:=z1P hr;show(_,(zc (yN (i:=2) yl.nd rfl (QV rfl) (zS a hr.m (zl (ixT v0 zd) (za v1 zb))))
  (zc (y0 (j:=3) rfl yl.nd rfl (w0g rfl) (CompSc.of (sx:=zi z03) (NX:= ["_law_state","_law_seed","_law_condition","_law_rows","_law_line"]) (fr:= ["_law_condition","_law_state"]) (ix:= [2,0]) rfl rfl ()) (zT (ixT v0 zd)) (λk k k k k k=>(z2o (zX (zS d hr.m (za v1 (zl (yz (z09 (K:=K) rfl) v2 zd (λk k=>rfl)) (za v0 zb))))))) (λk k k k k k=>v0))
  (zc (kX (z3n (cmT (z53 hu) v3 (zC zb)) (cmT z5Q (zo zW v1 zd) zd))
   (zc (yN (i:=2) yl.nd rfl (QV rfl) (zD (zr zn (za v2 zb))))
   (zf (seT 3 yl (jj yJ rfl T.list qE (zl (ixT v0 zd) zb)))))
   zt)
  (zc (seT 4 yl (zo zm (zo zm (zo zm (zo zm zn (zS b hr.m (za v2 zb))) zn) (ixT v0 zd)) zn))
  (zf (zp (zD (zQ (zD (zr zn (za v2 (zl (ixT v0 zd) zb)))) (za v4 (zl (ixT v0 zd) (za v3 zb))))))))))),?_)
 generalize hK0:K=K1
 revert K1
 show jd #[] ?_;show !(zg h1 jF (!(hp,a6,ze th q,rfl,G,ai,λcv c H1 s1 hc I sz=>?_)));have g1:=s1 _ _ h1;have z:=B.same s1;show !(zg g1 z1c (rp,rfl,(_,SqL.of z.1),?_));show z0F (xs:=refs rs) (λi ys H'=>zw H1 H'/\ys=refs ((rs.take i).filter λr=>ev (ze th q) r.2 c)) (zw.refl _,rfl) ?_ ?_ ?_
 .rintro i ys H' hi ⟨e,rfl⟩;show(SqL.of (e _ _ z.1),zG ?_);have:=qz (λr:Addr×List Int=>ev (ze th q) r.2 c) (rs.take i);rw[w9];rw[wV]at this
  lia
 .rintro i x ys H' hi ⟨e,rfl⟩;have y:i<rs.length:=by
   have:=(wg.mp hi).1
   rwa [O]at this
  rw[yb y]at hi;cases hi;have t:=s1.trans e;have aU:=(z.2 _ (wz y)).2;have hlen:rs[i].2.length=(ze th q).length:=jG TT hok _ (by rw[<-s];show qx.mpr (_,wz y,rfl));show !(!(zg (t _ _ h1) jF (!(cv,hp,rs[i].1,ze th q,rs[i].2,c,rfl,hc.same e,I,t _ _ G,e _ _ aU,hlen,∅,λo l=>!?_))));have ft:=z17 (λr:Addr×List Int=>ev (ze th q) r.2 c) rs (we y);cases hev:ev (ze th q) rs[i].2 c with
  | true=>
   show ifT rfl ?_;show !(e.trans l,?_);rw[ft,hev,qd rfl];simp[refs]
  | false=>
   show ifF rfl ?_;show(e.trans l,?_);rw[ft,hev];simp
 .rintro ys H' ⟨e,rfl⟩ np S;rw[O,qf];clear np S H2 n2 x2 np;have rm:=yj S n2 x2 λr m=>e _ _ (z.2 r (Qr.mp m).1).2
  have s2:=s1.trans (e.trans n2);have Z:=hc.same (e.trans n2);have g2:=s2 _ _ h1;have j2:=B.same s2;show(λσ o=>∃(u:V) (c':Cond) (C:Addr) (fs:List (Addr×List Int)),σ= [some (.ref p),some (.int a6),some u,some (.ref C),none]/\zw H o/\zE o c' u/\jA (ze th q) c'/\c'.size<=6/\RowsAt o C fs/\fs.map (·.2)=rowsOf th tr (.pick c' q),?_,?_)
  .refine !?_;clear ep hep o n3 x3;show(np,ep,!(rfl,SqL.of (n3 _ _ x2),SqL.of x3,!(_,(!(~~~((by change(0:Int)<3;decide),~~~(!(rfl,rfl))))),?_)));have l:=s2.trans n3;show k7 (λL=>?_) (λL=>?_)
   .rw [Qb]at L;have rn:(rs.filter λr=>ev (ze th q) r.2 c)= []:=by
     have:=L.1;rw[List.isEmpty_iff]at this;show List.map_eq_nil_iff.mp this
    show !?_;clear kp nJ H4 n4 x4;have n:=l.trans n4;show !(zg (n _ _ h1) z1c (rp,!(.inl (SqL.of (B.same n).1),λdp X=>?_)));have j4:=B.same n;clear dp X H5 n5 x5 dp;have dk:=yj X n5 x5 λr m=>(j4.2 r m).2
    show(_,.no c,dp,rs,rfl,n.trans n5,(kp,cv,rfl,n5 _ _ x4,Z.same (n3.trans (n4.trans n5))),I,by simp only[Cond.size];lia,dk,?_)
    change _=(rowsOf th tr q).filter λr=>ev (ze th q) r (.no c)
    rw[s,eq_comm,List.filter_eq_self];intro r U;rw[<-s]at U;obtain⟨x,hx,rfl⟩:=qx.mp U;have:=w19.mp rn x hx
    change(not (ev (ze th q) x.2 c))=true
    simpa using this
   .refine(_,c,np,!(l,Z.same n3,I,∅,rm.same n3,?_));rw[zbu,s]
    rfl
  .rintro σ o ⟨u,c',C,fs,rfl,l,Y,J,Ae,uq,e3⟩;have ls:=kj cG J;have g3:=l _ _ h1;show !(u,ze th q,c',rfl,Y,J,cG,∅,∅,λH4 n=>?_);have D:=n _ _ g3;show ~~~(⟨⟩,~~~(⟨⟩,!(zg D j8 (~~~(⟨⟩,~~~(⟨⟩,?_))))));show !(!(zg D zH ?_));clear qp dG H5 n5 x5;show !(!(zg (n5 _ _ D) jF (!?_)));clear sp aq H6 n6 x6;have N:=n.trans (n5.trans n6);have M:=l.trans N;show fin _ c' _ M (sp,_,hp,C,fs,rfl,x6,(qp,u,qv,rfl,n6 _ _ x5,Y.same N,h2.same M),M _ _ G,uq.same N,e3) J Ae
theorem z1k{m:Int}(h:0<=m):z1W xs none (some m)=xs.take m.toNat:=by
 unfold z1W;rw[HT.sIx_none,w1r,Nat.sub_zero];have e:HT.sIx xs.length xs.length (some m)=min m.toNat xs.length:=by
  change(if m<0 then(m+(xs.length:Int)).toNat else min m.toNat xs.length)=_
  rw[wW ∅]
 rw[e,List.take_eq_take_iff]
 lia
theorem z9i{xs:List Int}{i:Int}(a:∀m∈xs,m∈z0t)(h0:0<=i)(h1:i<(xs.length:Int)):∃m∈z0t,atI (xs.map V.int) i=some (.int m):=by
 obtain⟨h,e⟩:=z8L (xs:=xs.map V.int) h0 (by rw[w9];show h1);have h':i.toNat<xs.length:=by simpa using h
 show(xs[i.toNat],a _ (wz _),?_);rw[e,List.getElem_map]
noncomputable def z9C:List Int:= [9,1,5,3,12,7,0,10 ^ 9]
noncomputable def zad:List Int:= [4,0,2,3,8,7,10 ^ 9]
theorem zc4:∀m∈z9C,m∈z0t:=by decide
theorem zcT:∀m∈zad,m∈z0t:=by decide
theorem zgw:(z9C.length:Int)=8:=rfl
theorem zgx:(zad.length:Int)=7:=rfl
theorem zcD(i:Int):∃m∈z0t,atI (z9C.map V.int) (i%8)=some (.int m):=z9i zc4 (z1K ()).1 (by rw[zgw];show(z1K ()).2)
theorem zbo(i:Int):∃m∈z0t,atI (zad.map V.int) (i%7)=some (.int m):=z9i zcT (z1K ()).1 (by rw[zgx];show(z1K ()).2)
def zgQ(a:H0 l0=some (HO.lst [V.int 9,V.int 1,V.int 5,V.int 3,V.int 12,V.int 7,V.int 0,V.int ((10:Int) ^ (9:Int).toNat)])):H0 l0=some (.lst (z9C.map V.int)):=a
def zh6(a:H0 l0=some (HO.lst [V.int 4,V.int 0,V.int 2,V.int 3,V.int 8,V.int 7,V.int ((10:Int) ^ (9:Int).toNat)])):H0 l0=some (.lst (zad.map V.int)):=a
theorem z5Z:∀m∈z0t,0<=m:=by decide
def z7v{m:Int}(h:m∈z0t):zbv (.int m) (toString m):= .inl (m,rfl,(z0h m h).2,rfl)
inductive spHeaded (K:W.Frag) (vs:List V) (H:Hp) (Q:VK) (E:XK):Prop
 | mk:∀th tr q v a6,vs= [v,.int a6]->StAt th tr H v q->(zy q).length<=4000000->(∀(v':V) (q':Qn) (H':Hp),zw H H'->StAt th tr H' v' q'->(∃n∈z0t,q'= .first n q\/∃m∈z0t,q'= .first m (.first n q))->Q v' H')->spHeaded K vs H Q E
def z67(n:Nat)(h:RowsAt H rp rs):∀r∈rs.take n,H r.1=some (.lst (r.2.map V.int)):=λr m=>(h.2 r (QG m)).2
theorem jn:FnScope ["_law_state","_law_seed","_law_many","_law_line","_law_question","_law_rows","_law_more"] ["_law_state","_law_seed"] (zi z1e):=by done
theorem z4Y(F:Fun K "_law_headed" "_law_headed" z1e f fd)(T:Txt K mg):FnOk P w K mg base CX0 1 f fd ["_law_state","_law_seed"] (spHeaded K):=by
 clear jn vs H Q E h F;obtain⟨th,tr,q,v,a6,rfl,y,O,fin⟩:=h;obtain⟨p,qv,hp,rp,rs,rfl,h1,h2,i,G,z⟩:=y;obtain⟨m,a,J⟩:=zcD (a6/2);obtain⟨c,d,x⟩:=zbo (a6/16+a6);have R:=(z0h m a).1;have L:=(z0h c d).1;have B:=z5Z m a;have I:=z5Z c d;intro aa A outer N hr;show(_,(zc (seT 2 jn (ixL (zC (zr zd (zr zd (zr zd (zr zd (zr zd (zr zd (zr zd (yq (z4t ((),(),())) zb))))))))) (zo zW (zo jZ v1 zd) zd)))
  (zc (seT 3 jn (zo zm (zo zm (zo zm (zo zm zn (jj z2C rfl T.str qP (za v2 zb))) zn) (ixT v0 zd)) zn))
  (zc (seT 4 jn (zD (zr zn (za v2 (zl (ixT v0 zd) zb)))))
  (zc (seT 5 jn (jt yI (ixT v0 zd) jW (jI v2)))
  (zc (zB (cmT zO (zo zW v1 zd) zd)
   (zc (seT 6 jn (ixL (zC (zr zd (zr zd (zr zd (zr zd (zr zd (zr zd (yq (z4t ((),(),())) zb)))))))) (zo zW (zo yw (zo jZ v1 zd) v1) zd)))
   (zc (seT 3 jn (zo zm (zo zm (zo zm (zo zm zn (jj z2C rfl T.str qP (za (pv 6) zb))) zn) v3) zn))
   (zc (seT 4 jn (zD (zr zn (za (pv 6) (za v4 zb)))))
   (zf (seT 5 jn (jt yI v5 jW (jI (pv 6))))))))
   zt)
  (zf (zp (zD (za v4 (za v3 (zl (ixT v0 zd) (za v5 zb)))))))))))),?_)
 generalize hK0:K=K1
 revert K1
 show jd #[] ?_;clear l0 f0 H0 n0 x0;replace x0:=zgQ x0;show !(~~~(((),()),~~~((by change(0:Int)<8;decide),zv x0 J ?_)));show !(_,!(z7v a,~~~(⟨⟩,~~~(⟨⟩,!(zg (n0 _ _ h1) j8 (~~~(⟨⟩,~~~(⟨⟩,?_))))))));show !(!(zg (n0 _ _ h1) zH ?_));clear q1 f1 H1 n1 x1;have s1:=n0.trans n1;have l:=G.same s1;show !(zg (s1 _ _ h1) z1c (!(!(rp,!(SqL.of l.1,λr2 f2=>?_)))));rw[z1k B,<-QZ];clear r2 f2 H2 n2 x2 r2;have s2:=s1.trans n2;have w2:=yj f2 n2 x2 (z67 _ l);have r:QAt H2 (.first m q) (.ref q1):=(q1,qv,rfl,n2 _ _ x1,h2.same s2);have s:(rs.take m.toNat).map (·.2)=rowsOf th tr (.first m q):=by
  rw[QZ,z]
  rfl
 have M:(zy (.first m q)).length<=4000100:=by simp only[zy];(walk_at "sl")
 show !(~~~((by change(0:Int)<2;decide),rfl,!?_));show k7 (λC=>?_) (λC=>?_)
 .clear l3 f3 H3 n3 x3;replace x3:=zh6 x3;show !(~~~(((),()),!(~~~(~~~((by change(0:Int)<7;decide),zv x3 x ?_)))));show !(_,!(z7v d,~~~(⟨⟩,~~~(⟨⟩,!(_,(zy (.first m q)),rfl,rfl,⟨⟩,~~~(⟨⟩,?_))))));show !(!?_);clear q4 f4 H4 n4 x4;have n:=n3.trans n4;have j:=w2.same n;show !(!(!(r2,!(SqL.of j.1,λe o=>?_))));rw[z1k I,<-QZ];clear e o H5 n5 x5 e;have D:=yj o n5 x5 (z67 _ j);have t:=n.trans n5;have u:=s2.trans t;show !(!(!(zg (u _ _ h1) jF (!?_))));clear sp f6 H6 n6 x6;have b:=u.trans n6;show fin _ (.first c (.first m q)) _ b (sp,_,hp,e,_,rfl,x6,(q4,!(n6 _ _ (n5 _ _ x4),r.same (t.trans n6))),b _ _ i,D.same n6,?_) (m,a,.inr (c,d,rfl));rw[QZ,s]
  rfl
 .refine !(!(!(zg (s2 _ _ h1) jF (!?_))));clear sp f6 H6 n6 x6;have b:=s2.trans n6;show fin _ (.first m q) _ b (sp,_,hp,r2,_,rfl,x6,r.same n6,b _ _ i,w2.same n6,s) (m,a,.inl rfl)
variable{gs:List (Addr×List Int)}
theorem z9e{sp d hp x y:Addr}{a b:Qn}{c:V}{fs:List (Addr×List Int)}(s:zw H H')(f:H' sp=some (.tup [.ref d,.str (zy (.both a b)),.ref hp,.ref np]))(e:H' d=some (.tup [.str "both",qv,c]))(h1:QAt H' a qv)(h2:QAt H' b c)
  (h:H' hp=some (.lst ((ze th a).map V.str))) (hr:RowsAt H' np (fs++gs)) (j:fs.map (·.2)=rowsOf th tr a) (i:gs.map (·.2)=rowsOf th tr b):StAt th tr H' (.ref sp) (.both a b):=
 (sp,_,hp,np,_,rfl,f,(d,qv,c,rfl,e,h1,h2),h,hr,by rw[wF,j,i];rfl)
theorem z7l{a b:Addr}{fs:List (Addr×List Int)}(c:H np=none)(n:zw H H')(x:H' np=some (.lst (refs fs++refs gs)))(h1:RowsAt H a fs)(h2:RowsAt H b gs):RowsAt H' np (fs++gs):=
 yj c n (by rw[x];simp[refs]) λr m=>by
  rcases wE.mp m with m|m
  .exact(h1.2 r m).2
  .exact(h2.2 r m).2
theorem z5c(b:∀s∈ze th q,s.length<=10)(a:jA (ze th q) c)(sz:c.size<=6):(zy (.pick c q)).length<=(zy q).length+1000:=by
 have ls:=kj b a;simp only[zy]
 (walk_at "sl")
inductive spDoubled (K:W.Frag) (vs:List V) (H:Hp) (Q:VK) (E:XK):Prop
 | mk:∀th tr q v a6,vs= [v,.int a6]->TabOk th tr->StAt th tr H v q->okQ th q->(zy q).length<=4000000->(rowsOf th tr q).length<=100000->(∀(v':V) (q':Qn) (c:Cond) (H':Hp),zw H H'->StAt th tr H' v' q'->jA (ze th q) c->c.size<=6->(q'= .both q (.pick c q)\/q'= .both (.pick c q) q)->Q v' H')->spDoubled K vs H Q E
theorem jV:FnScope ["_law_state","_law_seed","_law_one","_law_other","_law_line"] ["_law_state","_law_seed"] (zi z0J):=by done
theorem z4d(F:Fun K "_law_doubled" "_law_doubled" z0J f fd)(T:Txt K mg)(a:Kn P w K mg base 8 "_law_picked" ["_law_state","_law_seed"] (spPicked K)):FnOk P w K mg base CX0 9 f fd ["_law_state","_law_seed"] (spDoubled K):=by
 clear jV vs H Q E h F;obtain⟨th,tr,q,v,a6,rfl,TT,D,hok,N,j,fin⟩:=h;have X:=ja TT hok;intro aa A outer sh hr;show(_,(zc (seT 2 jV v0)
  (zc (seT 3 jV (zS a hr.m (za v0 (za v1 zb))))
  (zc (kX (cmT zO (zo zW (zo jZ v1 zd) zd) zd)
   (zc (seT 2 jV v3)
   (zf (seT 3 jV v0)))
   zt)
  (zc (seT 4 jV (zo zm (zo zm (zo zm (zo zm zn (ixT v2 zd)) zn) (ixT v3 zd)) zn))
  (zf (zp (zD (zQ (zD (zr zn (zl (ixT v2 zd) (zl (ixT v3 zd) zb)))) (za v4 (zl (ixT v0 zd) (yq (zo kF (ixT v2 zd) (ixT v3 zd)) zb))))))))))),?_)
 generalize hK0:K=K1
 revert K1
 show jd #[] ?_;show !?_;show !(!(th,tr,q,v,a6,rfl,TT,D,hok,N,j,λv1 c H1 s1 i s sz=>?_));have l:=D.same s1;have lp:=z5c X s sz;have rl:(rowsOf th tr (.pick c q)).length<=100000:=wY (qz _ _) j;have U:ze th (.pick c q)=ze th q:=rfl;show(λσ z=>∃(n tv:V) (b d:Qn),σ= [some v,some (.int a6),some n,some tv,none]/\z=H1/\StAt th tr H1 n b/\StAt th tr H1 tv d/\(zy b).length<=4001000/\(zy d).length<=4001000/\(rowsOf th tr b).length<=100000/\(rowsOf th tr d).length<=100000/\ze th b=ze th q/\((b=q/\d= .pick c q)\/(b= .pick c q/\d=q)),?_,?_)
 .refine !(~~~(((),()),~~~((by change(0:Int)<2;decide),rfl,!?_)));show k7 (λJ=>?_) (λJ=>?_)
  .refine !?_;show !?_;show(_,_,~~~(i,l,∅,∅,rl,j,U,.inr (rfl,rfl)))
  .exact(_,_,~~~(l,i,∅,∅,j,rl,rfl,.inl (rfl,rfl)))
 .rintro σ z ⟨n,tv,b,d,rfl,rfl,L,G,lo,lt,o,rt,O,hq⟩;obtain⟨p,qv,hp,rp,rs,rfl,h1,h2,I,h4,h5⟩:=l;obtain⟨p1,Z,aJ,dk,S,rfl,a1,a2,a3,B,t⟩:=L;obtain⟨p2,bY,bf,Y,M,rfl,b1,b2,b3,C,u⟩:=G;have l1:S.length<=100000:=by rw[<-t,w9]at o;show o
  have l2:M.length<=100000:=by rw[<-u,w9]at rt;show rt
  show !(zg a1 j8 (~~~(⟨⟩,~~~(⟨⟩,!(zg b1 j8 (~~~(⟨⟩,~~~(⟨⟩,?_))))))));show !(zg a1 zH (!(zg b1 zH ?_)));clear qp dG H5 n5 x5;show !(!(zg (n5 _ _ h1) jF (!(zg (n5 _ _ a1) z1c (!(zg (n5 _ _ b1) z1c (_,_,~~~(n5 _ _ B.1,n5 _ _ C.1,jb (by rw[w9,w9];lia),λnp r=>?_))))))));clear np r H6 n6 x6 np;have R:=z7l r n6 x6 (B.same n5) (C.same n5);clear sp aq H7 n7 x7;have e:=n5.trans (n6.trans n7);show fin _ (.both b d) c _ (s1.trans e) (z9e (x:=p) (y:=p) e x7 (n7 _ _ (n6 _ _ x5)) (a2.same e) (b2.same e) (by rw[O];show e _ _ I) (R.same n7) t u) s sz ?_;rcases hq with⟨rfl,rfl⟩|⟨rfl,rfl⟩
  .exact .inl rfl
  .exact .inr rfl
inductive TabAt (th:Str->List Str) (tr:Str->List (List Int)) (H:Hp) (v:V) (n:Str):Prop
 | mk:∀(p hp rp:Addr) (rs:List (Addr×List Int)),v= .ref p->H p=some (.tup [.str n,.ref hp,.ref rp])->H hp=some (.lst ((th n).map V.str))->RowsAt H rp rs->rs.map (·.2)=tr n->TabAt th tr H v n
theorem TabAt.same{v:V}(h:TabAt th tr H v n)(e:zw H H'):TabAt th tr H' v n:=by
 obtain⟨p,hp,rp,rs,rfl,h1,a,b,c⟩:=h;show(p,hp,rp,rs,rfl,e _ _ h1,e _ _ a,b.same e,c)
inductive spBeside (K:W.Frag) (vs:List V) (H:Hp) (Q:VK) (E:XK):Prop
 | mk:∀th tr q n v tv a6,vs= [v,tv,.int a6]->StAt th tr H v q->TabAt th tr H tv n->ze th q=th n->n.length<=10->(zy q).length<=4000000->(rowsOf th tr q).length<=100000->(tr n).length<=100000->(∀(v':V) (q':Qn) (H':Hp),zw H H'->StAt th tr H' v' q'->(q'= .both q (.table n)\/q'= .both (.table n) q)->Q v' H')->spBeside K vs H Q E
theorem ye:FnScope ["_law_state","_law_table","_law_seed","_law_one","_law_other","_law_line"] ["_law_state","_law_table","_law_seed"] (zi z1a):=by done
theorem z4J(F:Fun K "_law_beside" "_law_beside" z1a f fd)(T:Txt K mg):FnOk P w K mg base CX0 1 f fd ["_law_state","_law_table","_law_seed"] (spBeside K):=by
 clear ye vs H Q E h F;obtain⟨th,tr,q,n,v,tv,a6,rfl,aD,ht,Ag,R,fY,s,o,fin⟩:=h;obtain⟨tp,N,O,I,rfl,l,M,S,U⟩:=ht;intro aa A outer sh hr;show(_,(zc (seT 3 ye v0)
  (zc (seT 4 ye (zD (zQ (zD (zr zn (zl (ixT v1 zd) zb))) (zl (ixT v1 zd) (zl (ixT v1 zd) (zl (ixT v1 zd) zb))))))
  (zc (kX (cmT zO (zo zW (zo jZ v2 zd) zd) zd)
   (zc (seT 3 ye v4)
   (zf (seT 4 ye v0)))
   zt)
  (zc (seT 5 ye (zo zm (zo zm (zo zm (zo zm zn (ixT v3 zd)) zn) (ixT v4 zd)) zn))
  (zf (zp (zD (zQ (zD (zr zn (zl (ixT v3 zd) (zl (ixT v4 zd) zb)))) (za v5 (zl (ixT v0 zd) (yq (zo kF (ixT v3 zd) (ixT v4 zd)) zb))))))))))),?_)
 generalize hK0:K=K1
 revert K1
 show jd #[] ?_;show !?_;show !(zg l zH ?_);clear qp dG H1 n1 x1;have i:=n1 _ _ l;show !(zg i zH (!(zg i j8 (!(zg i jF ?_)))));clear sp0 hsp0 H2 n2 x2;have s2:=n1.trans n2;have G:StAt th tr H2 (.ref sp0) (.table n):=(sp0,_,N,O,I,rfl,x2,(qp,rfl,n2 _ _ x1),s2 _ _ M,S.same s2,U);have d:=aD.same s2;have EO:(zy (.table n)).length<=10:=R;show(λσ B=>∃(e j:V) (a b:Qn),σ= [some v,some (.ref tp),some (.int a6),some e,some j,none]/\B=H2/\StAt th tr H2 e a/\StAt th tr H2 j b/\(zy a).length<=4000000/\(zy b).length<=4000000/\(rowsOf th tr a).length<=100000/\(rowsOf th tr b).length<=100000/\ze th a=ze th q/\((a=q/\b= .table n)\/(a= .table n/\b=q)),?_,?_)
 .refine !(~~~(((),()),~~~((by change(0:Int)<2;decide),rfl,!?_)));show k7 (λX=>?_) (λX=>?_)
  .refine !?_;show !?_;show(_,_,~~~(G,d,∅,∅,o,s,Ag.symm,.inr (rfl,rfl)))
  .exact(_,_,~~~(d,G,∅,∅,s,o,rfl,.inl (rfl,rfl)))
 .rintro σ B ⟨e,j,a,b,rfl,rfl,Y,J,lo,lt,r,rt,eo,hq⟩;obtain⟨p,qv,hp,rp,rs,rfl,h1,h2,L,h4,h5⟩:=d;obtain⟨p1,iI,aJ,dk,az,rfl,a1,a2,a3,C,u⟩:=Y;obtain⟨p2,bY,bf,dM,Z,rfl,b1,b2,b3,D,z⟩:=J;have l1:az.length<=100000:=by rw[<-u,w9]at r;show r
  have l2:Z.length<=100000:=by rw[<-z,w9]at rt;show rt
  show !(zg a1 j8 (~~~(⟨⟩,~~~(⟨⟩,!(zg b1 j8 (~~~(⟨⟩,~~~(⟨⟩,?_))))))));show !(zg a1 zH (!(zg b1 zH ?_)));clear qp' hqp' H5 n5 x5;show !(!(zg (n5 _ _ h1) jF (!(zg (n5 _ _ a1) z1c (!(zg (n5 _ _ b1) z1c (_,_,~~~(n5 _ _ C.1,n5 _ _ D.1,jb (by rw[w9,w9];lia),λnp t=>?_))))))));clear np t H6 n6 x6 np;have rc:=z7l t n6 x6 (C.same n5) (D.same n5);clear sp aq H7 n7 x7;have c:=n5.trans (n6.trans n7);show fin _ (.both a b) _ (s2.trans c) (z9e (x:=p) (y:=p) c x7 (n7 _ _ (n6 _ _ x5)) (a2.same c) (b2.same c) (by rw[eo];show c _ _ L) (rc.same n7) u z) ?_;rcases hq with⟨rfl,rfl⟩|⟨rfl,rfl⟩
  .exact .inl rfl
  .exact .inr rfl
theorem z1x(h:i<rs.length):(rs.map (·.2))[i]? =some rs[i].2:=by
 rw[wM,we h]
 rfl
theorem z3m(h:i<rs.length):(rs.map (·.2)).getD i []=rs[i].2:=by
 rw[wn,z1x h]
 rfl
theorem z7z{m:Int}(h:0<=m):z1W xs (some m) none=xs.drop m.toNat:=by
 unfold z1W;rw[HT.sIx_none];have e:HT.sIx xs.length 0 (some m)=min m.toNat xs.length:=by
  change(if m<0 then(m+(xs.length:Int)).toNat else min m.toNat xs.length)=_
  rw[wW ∅]
 rw[e];by_cases hm:m.toNat<=xs.length
 .rw [Nat.min_eq_left hm,Q0 (by rw[w15];lia)]
 .rw [Nat.min_eq_right ∅,List.drop_of_length_le (wA _),List.drop_of_length_le ∅,List.take_nil]
theorem z7W(hs:List α)(t:Nat):(hs.drop t++hs.take t).Perm hs:=by
 have:=List.perm_append_comm (l₁:=hs.drop t) (l₂:=hs.take t)
 rwa [List.take_append_drop]at this
theorem zae(h:∀n∈ns,n.length<=10):(ns.map (·.length)).sum<=10*ns.length:=by
 induction ns with
 | nil=>show wA _
 | cons n ns a=>
  have h1:=h n qy;have h2:=a λm hm=>h m (wZ _ hm)
  rw[qF,Qj,wP]
  lia
theorem z4V:∀{ns:List Str},(∀n∈ns,n.length<=10)->(Str.join " " ns).length<=11*ns.length
 | [],_=>by simp[Str.join];decide
 | [n],h=>by
  have:=h n qy;simp only[Str.join,wJ]
  lia
 | n::m::ns,h=>by
  have h1:=h n qy;have h2:=z4V (ns:=m::ns) λx a=>h x (wZ _ a)
  simp only[Str.join,w1n,z1B];have e:(n::m::ns).length=(m::ns).length+1:=rfl
  lia
inductive spColumns (K:W.Frag) (vs:List V) (H:Hp) (Q:VK) (E:XK):Prop
 | mk:∀th tr q v a6,vs= [v,.int a6]->TabOk th tr->StAt th tr H v q->okQ th q->(zy q).length<=4000000->(rowsOf th tr q).length<=100000->(ze th q).length<=1000->(∀(v':V) (ns:List Str) (H':Hp),zw H H'->StAt th tr H' v' (.cols ns q)->ns≠ []->ns.Nodup->(∀n∈ns,n∈ze th q)->Q v' H')->spColumns K vs H Q E
theorem jE:FnScope ["_law_state","_law_seed","_law_turn","_law_names","_law_spots","_law_rows","_law_line"] ["_law_state","_law_seed"] (zi yg):=by done
theorem z4b(F:Fun K "_law_columns" "_law_columns" yg f fd)(T:Txt K mg):FnOk P w K mg base CX0 1 f fd ["_law_state","_law_seed"] (spColumns K):=by
 clear jE vs H Q E h F;obtain⟨th,tr,q,v,a6,rfl,TT,aD,hok,fY,b7,gP,fin⟩:=h;obtain⟨p,qv,hp,rp,rs,rfl,h1,h2,s,h4,G⟩:=aD;obtain⟨ai,nY⟩:=jz TT hok;have cG:=ja TT hok;have bQ:=jG TT hok;have D:(refs rs).length=rs.length:=w9 _;have uw:rs.length<=100000:=by rw[<-G,w9]at b7;show b7
 generalize hhs:ze th q=hs at *;have hlen:(0:Int)<(((hs.map V.str).length:Nat):Int):=by
  have:=w06.mpr ai;rw[w9];lia
 intro aa A outer sh hr;show(_,(zc (seT 2 jE (zo zW v1 (leN T.len (zl (ixT v0 zd) zb))))
  (zc (seT 3 jE (zo kF (jt yI (ixT v0 zd) (jI v2) jW) (jt yI (ixT v0 zd) jW (jI v2))))
  (zc (kX (z3n (cmT zO (zo zW (zo jZ v1 zd) zd) zd) (cmT z5Q (leN T.len (za v3 zb)) zd))
   (zf (seT 3 jE (jt yI v3 (jI zd) jW)))
   zt)
  (zc (yN (i:=4) jE.nd rfl (QV rfl) (jB rfl (CompSc.of (sx:=zi yg) (NX:= ["_law_state","_law_seed","_law_turn","_law_names","_law_spots","_law_rows","_law_line"]) (fr:= ["_law_state"]) (ix:= [0]) rfl rfl ()) (zT v3) (λk k k k k k=>jh) (λk k k k k k=>(zd8 (K:=K) rfl wO qG qI (z68 (K:=K) rfl) (yz (z09 (K:=K) rfl) v1 zd (λk k=>rfl)) (za v0 zb)))))
  (zc (y0 (j:=5) rfl jE.nd rfl (w0g rfl) (CompSc.of (sx:=zi yg) (NX:= ["_law_state","_law_seed","_law_turn","_law_names","_law_spots","_law_rows","_law_line"]) (fr:= ["_law_spots"]) (ix:= [4]) rfl rfl ()) (zT (ixT v0 zd)) (λk k k k k k=>jh) (λk k k k k k=>(jB rfl (CompSc.of2 (sx:=zi yg) (NX:= ["_law_row","_law_spots"]) (fr:= ["_law_row"]) (ix:= [0]) rfl rfl ()) (z7p (K:=K) rfl v1) (λk k k k k k=>jh) (λk k k k k k=>(yz (yA (K:=K) rfl) v1 v0 (λk k=>rfl))))))
  (zc (seT 6 jE (zo zm (zo zm (zo zm (zo zm zn (kg PySem.F.plainAttrs_str PySem.F.slot_str_join PySem.F.type_str_join z9B zn (za v3 zb))) zn) (ixT v0 zd)) zn))
  (zf (zp (zD (zQ (zD (zr zn (zK (jj z1h rfl T.tuple qZ (za v3 zb)) (zl (ixT v0 zd) zb)))) (za (pv 6) (za v3 (za v5 zb))))))))))))),?_)
 generalize hK0:K=K1
 revert K1
 show jd #[] ?_;show !(!(zg h1 jF (hp,!(.inl (SqL.of s),~~~(hlen,?_)))));obtain⟨I,t1⟩:=z1K (i:=a6) hlen;obtain⟨tn,Ah⟩:∃tn,a6%(((hs.map V.str).length:Nat):Int)=tn:=(_,rfl)
 dsimp -proj only;rw[Ah]at I t1 ⊢;show !(zg h1 jF (!(!(hp,!(SqL.of s,λl1 f1=>?_)))));rw[z7z I,<-List.map_drop];clear l1 f1 H1 n1 x1 l1;show !(zg (n1 _ _ h1) jF (!(!(hp,!(SqL.of (n1 _ _ s),λl2 f2=>?_)))));rw[z1k I,<-QZ];clear l2 f2 H2 n2 x2 l2;show(_,_,~~~(n2 _ _ x1,x2,jb (by rw[w9,w9,w15,wV];lia),λe f3=>?_));rw[<-wF];clear e f3 H3 n3 x3 e;have pm:=z7W hs tn.toNat
 have L:(hs.drop tn.toNat++hs.take tn.toNat).length=hs.length:=pm.length_eq;have o:(hs.drop tn.toNat++hs.take tn.toNat).Nodup:=pm.nodup_iff.mpr nY;have a:∀n∈hs.drop tn.toNat++hs.take tn.toNat,n∈hs:=λn hn=>pm.mem_iff.mp hn
 generalize hs.drop tn.toNat++hs.take tn.toNat=ns0 at x3 L o a;have s3:=n1.trans (n2.trans n3);show(λσ H4=>∃(np:Addr) (ns:List Str),σ= [some (.ref p),some (.int a6),some (.int tn),some (.ref np),none,none,none]/\zw H H4/\H4 np=some (.lst (ns.map V.str))/\ns≠ []/\ns.Nodup/\(∀n∈ns,n∈hs)/\ns.length<=1000,?_,?_)
 .refine !(~~~(((),()),~~~((by change(0:Int)<3;decide),rfl,!(_,(!(e,!(.inl (SqL.of x3),~~~(!(rfl,rfl))))),?_))));show k7 (λS=>?_) (λS=>?_)
  .rw [Qb]at S;have fB:=qD S.2;rw[w9]at fB;show !(1,rfl,e,!(SqL.of x3,λC f4=>?_));rw[z7z (),<-List.map_drop];clear C f4 H4 n4 d C;show(C,ns0.drop 1,rfl,s3.trans n4,d,λz=>?_,o.sublist (List.drop_sublist _ _),λn hn=>a n (List.mem_of_mem_drop hn),by rw[w15];lia);have:=Qd List.length z;rw[w15]at this;simp at this
   lia
  .refine(e,ns0,rfl,s3,x3,λz=>?_,o,a,∅);rw[z]at L;show ai (w01.mp L.symm)
 .rintro σ H4 ⟨np,ns,rfl,y,d,Ai,o,a,Aj⟩;have lX:∀n∈ns,n.length<=10:=λn hn=>cG n (a n hn)
  show !(np,rfl,(_,SqL.of d),?_);show jc (xs:=ns.map V.str) (λi ys H'=>zw H4 H'/\ys=(ns.take i).map λn=>V.int ((hs.idxOf n:Nat):Int)) (zw.refl _,rfl) ?_ ?_ ?_
  .rintro i ys H' hi ⟨b,rfl⟩;show(SqL.of (b _ _ d),zG (by rw[w9,wV];lia))
  .rintro i x ys H' hi ⟨b,rfl⟩;have O:i<ns.length:=by
    have:=(wg.mp hi).1
    rwa [w9]at this
   rw[wM,we O]at hi;cases hi;have eD:=ji (a _ (wz O));have g3:=(y.trans b) _ _ s;show !(zg ((y.trans b) _ _ h1) jF (.inl (rfl,_,SqL.of g3),!(hp,_,_,hs.idxOf ns[i],rfl,rfl,SqL.of g3,rfl,zV hs,eD.1,eD.2,b,?_)));rw[wR,we O,wF]
   rfl
  .rintro ys H' ⟨b,rfl⟩ sp aq;rw[w9,qf];clear sp aq H5 n5 x5 sp;have s5:=y.trans (b.trans n5);have U:=h4.same s5;show !(zg (s5 _ _ h1) z1c (rp,rfl,(_,SqL.of U.1),?_));show jc (xs:=refs rs) (λi ys H'=>zw H5 H'/\∃qs:List (Addr×List Int),ys=refs qs/\qs.length=i/\(∀r∈qs,H' r.1=some (.lst (r.2.map V.int)))/\qs.map (·.2)=((rs.map (·.2)).take i).map λr=>ns.map λn=>r.getD (hs.idxOf n) 0) (zw.refl _,[],rfl,rfl,λk z=>(by cases z),rfl) ?_ ?_ ?_
   .rintro i ys X hi ⟨c,qs,rfl,hq,_,_⟩;rw[D]at hi;show(SqL.of (c _ _ U.1),zG (by rw[w9];lia))
   .rintro i x ys X hi ⟨c,qs,rfl,hq,J,u⟩;have t:i<rs.length:=by
     have:=(wg.mp hi).1
     rwa [D]at this
    rw[yb t]at hi;cases hi;have aU:=(U.2 _ (wz t)).2;have eG:rs[i].2.length=hs.length:=bQ _ (by rw[<-G];show qx.mpr (_,wz t,rfl));show !(sp,rfl,(_,SqL.of (c _ _ x5)),?_);show jc (xs:=ns.map λn=>V.int ((hs.idxOf n:Nat):Int)) (λm ys H'=>H'=X/\ys=((ns.take m).map λn=>rs[i].2.getD (hs.idxOf n) 0).map V.int) (rfl,rfl) ?_ ?_ ?_
    .rintro m ys Y hm ⟨rfl,rfl⟩;show(SqL.of (c _ _ x5),zG (by rw[w9,w9,wV];lia))
    .rintro m x ys Y hm ⟨rfl,rfl⟩;have Z:m<ns.length:=by
      have:=(wg.mp hm).1
      rwa [w9]at this
     rw[wM,we Z]at hm;cases hm;have bo:hs.idxOf ns[m]<rs[i].2.length:=by rw[eG];show qC.mpr (a _ (wz Z))
     show !(!(zv (c _ _ aU) (zR (int_at bo)) (rfl,?_)));rw[wR,we Z,wF,wF]
     rfl
    .rintro ys Y ⟨rfl,rfl⟩ lp bB;rw[w9,qf];have l:=zz bB (.lst ((ns.map λn=>rs[i].2.getD (hs.idxOf n) 0).map V.int));show(c.trans l,qs++[(lp,ns.map λn=>rs[i].2.getD (hs.idxOf n) 0)],by simp[refs],by rw[wm,hq];rfl,λr m=>?_,?_)
     .rcases wE.mp m with m|m
      .exact l _ _ (J r m)
      .rw [ww.mp m];show zh
     .rw [wF,u,wR,z1x t,wF]
      rfl
   .rintro ys X ⟨c,qs,rfl,hq,J,u⟩ M dq;rw[D,show(rs.map (·.2)).take rs.length=rs.map (·.2)from Q0 (by rw[w9];show wA _)]at u;clear M dq Y n7 x7 M;have w7:=yj dq n7 x7 J;have Ak:=c.trans n7;have B:=b.trans (n5.trans Ak);have N:=y.trans B;have jl:=z4V lX;have sl:=zae lX;show(rfl,!(_,np,ns,rfl,rfl,SqL.of (B _ _ d),by rw[z1B];lia,~~~(⟨⟩,~~~(⟨⟩,!(zg (N _ _ h1) j8 (~~~(⟨⟩,~~~(⟨⟩,?_))))))));show !(np,!(.inl (SqL.of (B _ _ d),λtp aw=>?_)));clear tp aw H8 l x8 tp;show !(zg (l _ _ (N _ _ h1)) zH ?_);clear qp dG H9 n9 x9;show !(!(!?_));clear sp' hsp' H10 bt dL;have R:=l.trans (n9.trans bt);have oe:=N.trans R;show fin _ ns _ oe (sp',_,np,M,qs,rfl,dL,(qp,tp,qv,rfl,bt _ _ x9,bt _ _ (n9 _ _ x8),h2.same oe),(B.trans R) _ _ d,w7.same R,?_) Ai o a;rw[u,G];simp only[rowsOf,hhs]
inductive spSorted (K:W.Frag) (vs:List V) (H:Hp) (Q:VK) (E:XK):Prop
 | mk:∀th tr q v a6,vs= [v,.int a6]->TabOk th tr->StAt th tr H v q->okQ th q->(zy q).length<=4000000->(rowsOf th tr q).length<64->(∀(v':V) (n:Str) (H':Hp),zw H H'->StAt th tr H' v' (.sort n q)->n∈ze th q->Q v' H')->spSorted K vs H Q E
theorem jM:FnScope ["_law_state","_law_seed","_law_name","_law_spot","_law_keys","_law_rows","_law_pair","_law_line"] ["_law_state","_law_seed"] (zi z0b):=by done
theorem z5d(F:Fun K "_law_sorted" "_law_sorted" z0b f fd)(T:Txt K mg):FnOk P w K mg base CX0 1 f fd ["_law_state","_law_seed"] (spSorted K):=by
 clear jM vs H Q E h F;obtain⟨th,tr,q,v,a6,rfl,TT,aD,hok,fY,O,fin⟩:=h;obtain⟨p,qv,hp,rp,rs,rfl,h1,h2,t,u,G⟩:=aD;obtain⟨ai,nY⟩:=jz TT hok;have cG:=ja TT hok;have bQ:=jG TT hok;have C:(refs rs).length=rs.length:=w9 _;have uw:rs.length<64:=by rw[<-G,w9]at O;show O
 have hlen:(0:Int)<((((ze th q).map V.str).length:Nat):Int):=by
  have:=w06.mpr ai;rw[w9];lia
 obtain⟨nm,mn,en⟩:=z1C (i:=a6) ai;have R:=ji mn;have nl:=cG nm mn;intro aa A outer sh hr;show(_,(zc (seT 2 jM (ixL (ixT v0 zd) (zo zW v1 (leN T.len (zl (ixT v0 zd) zb)))))
  (zc (yN (i:=3) jM.nd rfl (QV rfl) (kg wO qG qI yf (ixT v0 zd) (za v2 zb)))
  (zc (y0 (j:=4) rfl jM.nd rfl (w0g rfl) (CompSc.of (sx:=zi z0b) (NX:= ["_law_state","_law_seed","_law_name","_law_spot","_law_keys","_law_rows","_law_pair","_law_line"]) (fr:= ["_law_state","_law_spot"]) (ix:= [0,3]) rfl rfl ()) (jU rfl T.range (zK (leN T.len (zl (ixT v0 zd) zb)) zb)) (λk k k k k k=>jh) (λk k k k k k=>(zD (zl (yz (yA (K:=K) rfl) (yz (yA (K:=K) rfl) (yz (z09 (K:=K) rfl) v1 zd (λk k=>rfl)) v0 (λk k=>rfl)) v2 (λk k=>rfl)) (za v0 zb)))))
  (zc (seT 5 jM (zC zb))
  (zc (foR (zT (zF (z6H rfl) rfl T.sorted PyProof.Rows.boot_sorted (za v4 zb))) (gnM 6 jM)
   (zf (j7 (apP v5 (zl (ixL (ixT v0 zd) (ixT (pv 6) zd)) zb)))))
  (zc (seT 7 jM (zo zm (zo zm (zo zm (zo zm zn v2) zn) (ixT v0 zd)) zn))
  (zf (zp (zD (zQ (zD (zr zn (za v2 (zl (ixT v0 zd) zb)))) (za (pv 7) (zl (ixT v0 zd) (za v5 zb))))))))))))),?_)
 generalize hK0:K=K1
 revert K1
 show jd #[] ?_;show !(zg h1 jF (!(!(zg h1 jF (hp,!(.inl (SqL.of t),~~~(hlen,zv t en ?_)))))));show !(zg h1 jF (.inl (rfl,_,SqL.of t),!(hp,_,_,(ze th q).idxOf nm,rfl,rfl,SqL.of t,rfl,zV _,R.1,R.2,?_)));have sl:∀r∈rs,(ze th q).idxOf nm<r.2.length:=λr m=>by
  rw[bQ r.2 (by rw[<-G];show qx.mpr (_,m,rfl))];show qC.mpr mn
 generalize aq:(ze th q).idxOf nm=sp at sl;show !(zg h1 z1c (rp,!(.inl (SqL.of u.1),!(∅,by rw[C];lia,?_))));show z0f (lo:=0) (n:=(((refs rs).length:Nat):Int).toNat) (λi ys H'=>zw H H'/\∃ps:List PQ,ys=(ps.map λp=>V.ref p.1)/\ps.length=i/\(∀p∈ps,H' p.1=some (.tup [.int p.2.1,.int p.2.2]))/\∀(m:Nat) (hm:m<ps.length),ps[m].2=((rs.getD m (0,[])).2.getD sp 0,(m:Int))) (zw.refl _,[],rfl,rfl,λk z=>(by cases z),λm hm=>absurd hm (Nat.not_lt_zero _)) ?_ ?_ ?_
 .rintro i ys H' hi ⟨o,ps,rfl,hq,_,_⟩;rw[Int.toNat_natCast,C]at hi;show zG (by rw[w9];lia)
 .rintro i ys H' hi ⟨o,ps,rfl,hq,B,I⟩;rw[Int.toNat_natCast,C]at hi;have aU:=o _ _ (u.2 _ (wz hi)).2;show !(zg (o _ _ h1) z1c (!(zv (o _ _ u.1) (z6J hi) (!(zv aU (zR (int_at (sl _ (wz hi)))) (!((yG rfl),λtp aw=>?_)))))));have s:=zz aw (.tup [V.int (rs[i].2.getD sp 0),V.int (0+(i:Int))]);show(o.trans s,ps++[(tp,rs[i].2.getD sp 0,0+(i:Int))],by simp,by rw[wm,hq];rfl,λr m=>?_,λm hm=>?_)
  .rcases wE.mp m with m|m
   .exact s _ _ (B r m)
   .rw [ww.mp m];show zh
  .rw [wm,wJ]at hm;by_cases io:m<ps.length
   .rw [List.getElem_append_left io];show I m io
   .have em:m=ps.length:=by lia
    subst em;rw[List.getElem_append_right (wA _)];simp only[w1V,List.getElem_cons_zero];rw[hq,wn (l:=rs),we hi,w0q]
    rfl
 .rintro ys H' ⟨o,ps,rfl,hq,B,I⟩ kp nJ;rw[Int.toNat_natCast,C]at hq;clear kp nJ H1 s x1 kp;have s1:=o.trans s;clear wp dq H2 n2 x2;have s2:=s1.trans n2;have X:H wp=none:=s1.free dq;show !(kp,ps,rfl,SqL.of (n2 _ _ x1),λp m=>n2 _ _ (s _ _ (B p m)),∅,λdp is Z pm pw=>?_);have fg:dp≠wp:=(zq x2 Z).symm;clear dp Z H3 n3 x3 dp;rw[hq]at pm;have mem:∀i∈is,i<rs.length:=λi hi=>Qm.mp (pm.mem_iff.mp hi)
  have M:∀i,i<rs.length->(ps.getD i pq0).2=((rs.getD i (0,[])).2.getD sp 0,(i:Int)):=λi hi=>by
   rw[wn,we ∅];show I i ∅
  have s3:=s2.trans n3;show(dp,rfl,(_,SqL.of x3),z1M (K:=K) (a:=dp) (xs:=is.map λi=>V.ref (ps.getD i pq0).1) (λi σ H'=>∃o6:Option V,σ= [some (.ref p),some (.int a6),some (.str nm),some (.int ((sp:Nat):Int)),some (.ref kp),some (.ref wp),o6,none]/\zw H H'/\H' dp=some (.lst (is.map λi=>V.ref (ps.getD i pq0).1))/\(∀p∈ps,H' p.1=some (.tup [.int p.2.1,.int p.2.2]))/\
   RowsAt H' wp ((is.take i).map λi=>rs.getD i (0,[]))) (none,rfl,s3,x3,λp m=>n3 _ _ (n2 _ _ (s _ _ (B p m))),yE (n3 _ _ x2)) (λi σ H' _ ⟨_,_,_,z,_⟩=>SqL.of z) ?_ ?_)
  .rintro i x σ H4 D hN _ hi ⟨o6,rfl,d,d4,y,e⟩;have J:i<is.length:=by
    have:=(wg.mp hi).1
    rwa [w9]at this
   rw[wM,we J]at hi;cases hi;have c:=mem _ (wz J);have mp:ps.getD is[i] pq0∈ps:=by
    rw[wn,we ∅];show wz _
   have ek:=M _ c;have e2:(ps.getD is[i] pq0).2.2=((is[i]:Nat):Int):=by rw[ek]
   have Y:=u.same d;have eg:rs.getD is[i] (0,[])=rs[is[i]]:=by rw[wn,we c];rfl
   show !(.inl (rfl,_,SqL.of e.1),!(zg (d _ _ h1) z1c (!(zg (y _ mp) j8 (rp,_,_,V.ref rs[is[i]].1,rfl,rfl,SqL.of Y.1,by rw[e2];show zR (yb c),wp,~~~(e.1,zG (by rw[w9,w9,wV,pm.length_eq,w0W];lia),?_))))));show hN _ _ (!(d.put X,by rw[zj fg];show d4,λq' m=>by rw[zj (z40 (y q' m) e.1 (by intro z;cases z))];show y q' m,?_));rw[wR,we J,wF];have rr:=(Y.2 _ (wz c));have Am:rs[is[i]].1≠wp:=λz=>by
    have:=(u.2 _ (wz c)).2;rw[z,X]at this;cases this
   have:=e.push (q:=rs[is[i]].1) (x:=rs[is[i]].2) Am rr.2
   change RowsAt _ wp (_++[rs.getD is[i] (0,[])])
   rw[eg];show this
  .rintro σ H4 ⟨o6,rfl,d,d4,y,e⟩;rw[w9,qf]at e;show !(~~~(⟨⟩,~~~(⟨⟩,!(zg (d _ _ h1) j8 (~~~(⟨⟩,~~~(⟨⟩,?_)))))));show !(!(zg (d _ _ h1) zH ?_));clear qp dG H5 n5 x5;show !(!(zg (n5 _ _ (d _ _ h1)) jF (!?_)));clear sp' hsp' H6 n6 x6;have iH:=n5.trans n6;have L:=d.trans iH;show fin _ nm _ L (sp',_,hp,wp,_,rfl,x6,(qp,qv,rfl,n6 _ _ x5,h2.same L),L _ _ t,e.same iH,?_) mn
   change _=ke ((ze th q).idxOf nm) (rowsOf th tr q)
   rw[aq,<-G];unfold ke;have e0:is=z2Y (z36 (rs.map (·.2)) sp) (rs.map (·.2)).length:=by
    rw[w9];show z41 pm (Qu.mpr λa b ha U cQ=>?_);have h0:=Qu.mp pw a b ha U cQ;have N:∀i,i<rs.length->z36 (rs.map (·.2)) sp i=(rs.getD i (0,[])).2.getD sp 0:=λi hi=>by
     unfold z36;rw[z3m hi,wn (l:=rs),we hi]
     rfl
    have S:=mem _ (wz ha);have mb:=mem _ (wz U);rw[M _ S,M _ mb]at h0;have h0:=w0i h0;show wN ?_;rw[N _ S,N _ mb];replace h0:¬((rs.getD is[b] (0,[])).2.getD sp 0<(rs.getD is[a] (0,[])).2.getD sp 0\/(rs.getD is[b] (0,[])).2.getD sp 0=(rs.getD is[a] (0,[])).2.getD sp 0/\((is[b]:Nat):Int)<((is[a]:Nat):Int)):=h0
    lia
   rw[<-e0,Qp];show Qy λi hi=>?_
   have c:=mem i hi
   change(rs.getD i (0,[])).2=_
   rw[z3m c,wn,we c]
   rfl
theorem z8T{r:List Int}(h:rows[i]? =some r):jK s (rows.take (i+1))=if r.getD s 0∈jK s (rows.take i)then jK s (rows.take i)else jK s (rows.take i)++[r.getD s 0]:=by
 unfold jK;rw[wR,h,w0X]
 rfl
theorem z3M(rows:List (List Int)):(jK s rows).length<=rows.length:=by
 have go:∀(rows:List (List Int)) (acc:List Int),(rows.foldl (λacc r=>if r.getD s 0∈acc then acc else acc++[r.getD s 0]) acc).length<=acc.length+rows.length:=by
  intro rows
  induction rows with
  | nil=>intro acc;show wA _
  | cons r rows a=>
   intro acc;rw[List.foldl_cons,wP];show wY (a _) ?_;split
   .lia
   .rw [wm,wJ];lia
 have:=go rows [];rw[QN,w1W]at this;show this
theorem z9u{x:Int}:∀{xs:List Int},inV (.int x) (xs.map V.int)=decide (x∈xs)
 | []=>by simp[inV]
 | y::ys=>by
  have a:=z9u (x:=x) (xs:=ys);unfold inV at a ⊢;rw[qF,w1I,a]
  change((y == x)||decide (x∈ys))=_
  by_cases h:y=x
  .subst h;simp
  .rw [show(y == x)=false by simpa using h,Bool.false_or];by_cases m:x∈ys
   .simp [m]
   .have b:¬x=y:=λz=>h z.symm
    simp[m,b]
theorem zaX(xs:List Int):(xs.map V.int).all ko=true:=by
 rw[List.all_map];show qS.mpr λv v=>rfl
inductive spCounted (K:W.Frag) (vs:List V) (H:Hp) (Q:VK) (E:XK):Prop
 | mk:∀th tr q v a6 g,vs= [v,.int a6,.str g]->TabOk th tr->StAt th tr H v q->okQ th q->g.length=1->(zy q).length<=4000000->(rowsOf th tr q).length<=100000->(∀(v':V) (a b:Str) (H':Hp),zw H H'->StAt th tr H' v' (.group a b (("n":Str)++g) (("s":Str)++g) q)->a∈ze th q->b∈ze th q->Q v' H')->spCounted K vs H Q E
theorem zU:FnScope ["_law_state","_law_seed","_law_sign","_law_by","_law_of","_law_spot","_law_place","_law_rows","_law_row","_law_same","_law_total","_law_names","_law_line","_law_question"] ["_law_state","_law_seed","_law_sign"] (zi yh):=by done
theorem z4l(F:Fun K "_law_counted" "_law_counted" yh f fd)(T:Txt K mg):FnOk P w K mg base CX0 1 f fd ["_law_state","_law_seed","_law_sign"] (spCounted K):=by
 clear zU vs H Q E h F;obtain⟨th,tr,q,v,a6,g,rfl,TT,aD,hok,gl,fY,b7,fin⟩:=h;obtain⟨p,qv,hp,rp,rs,rfl,h1,h2,d,l,O⟩:=aD;obtain⟨ai,nY⟩:=jz TT hok;have cG:=ja TT hok;have bQ:=jG TT hok;have G:(refs rs).length=rs.length:=w9 _;have uw:rs.length<=100000:=by rw[<-O,w9]at b7;show b7
 have hlen:(0:Int)<((((ze th q).map V.str).length:Nat):Int):=by
  have:=w06.mpr ai;rw[w9];lia
 obtain⟨a,I,ea⟩:=z1C (i:=a6) ai;obtain⟨b,mb,eb⟩:=z1C (i:=a6/2) ai;have ia:=ji I;have ib:=ji mb;have la:=cG a I;have lb:=cG b mb;intro aa A outer sh hr;show(_,(zc (seT 3 zU (ixL (ixT v0 zd) (zo zW v1 (leN T.len (zl (ixT v0 zd) zb)))))
  (zc (seT 4 zU (ixL (ixT v0 zd) (zo zW (zo jZ v1 zd) (leN T.len (zl (ixT v0 zd) zb)))))
  (zc (yN (i:=5) zU.nd rfl (QV rfl) (kg wO qG qI yf (ixT v0 zd) (za v3 zb)))
  (zc (yN (i:=6) zU.nd rfl (QV rfl) (kg wO qG qI yf (ixT v0 zd) (za v4 zb)))
  (zc (seT 7 zU (zC zb))
  (zc (foR (zT (ixT v0 zd)) (z0D (i:=8) zU.nd rfl (QV rfl))
   (zf (zB (z01 kD (ixL (pv 8) v5) (jB rfl (CompSc.of (sx:=zi yh) (NX:= ["_law_state","_law_seed","_law_sign","_law_by","_law_of","_law_spot","_law_place","_law_rows","_law_row","_law_same","_law_total","_law_names","_law_line","_law_question"]) (fr:= []) (ix:= []) rfl rfl ()) (zT (pv 7)) (λW W W W W W=>jh) (λW W W W W W=>(yz (yA (K:=K) rfl) v0 zd (λW W=>rfl)))) (by with_unfolding_all rfl))
    (zc (y0 (j:=9) rfl zU.nd rfl (w0g rfl) (CompSc.of (sx:=zi yh) (NX:= ["_law_state","_law_seed","_law_sign","_law_by","_law_of","_law_spot","_law_place","_law_rows","_law_row","_law_same","_law_total","_law_names","_law_line","_law_question"]) (fr:= ["_law_spot","_law_row"]) (ix:= [5,8]) rfl rfl ()) (zT (ixT v0 zd)) (λW W W W W W=>(z2o (cmT zO (yz (yA (K:=K) rfl) v0 v1 (λW W=>rfl)) (yz (yA (K:=K) rfl) v2 v1 (λW W=>rfl))))) (λW W W W W W=>v0))
    (zc (seT 10 zU (zF (z1X rfl) rfl T.sum w0I (z0w (jB rfl (CompSc.of (sx:=zi yh) (NX:= ["_law_state","_law_seed","_law_sign","_law_by","_law_of","_law_spot","_law_place","_law_rows","_law_row","_law_same","_law_total","_law_names","_law_line","_law_question"]) (fr:= ["_law_place"]) (ix:= [6]) rfl rfl ()) (zT (pv 9)) (λW W W W W W=>jh) (λW W W W W W=>(yz (yA (K:=K) rfl) v0 v1 (λW W=>rfl)))) zb)))
    (zf (j7 (apP (pv 7) (jH (zC (zl (ixL (pv 8) v5) (zK (leN T.len (za (pv 9) zb)) (za (pv 10) zb)))) zb))))))
    zt)))
  (zc (seT 11 zU (zo zm (zo zm (zo zm (zo zm (zo zm (zo zm v3 zn) v4) zn) v2) zn) v2))
  (zc (seT 12 zU (zo zm (zo zm (zo zm (zo zm zn (pv 11)) zn) (ixT v0 zd)) zn))
  (zc (seT 13 zU (zD (zr zn (za v3 (za v4 (yq (zo zm zn v2) (yq (zo zm zn v2) (zl (ixT v0 zd) zb))))))))
  (zf (zp (zD (za (pv 13) (za (pv 12) (jH (zC (za v3 (yq (zo zm zn v2) (yq (zo zm zn v2) zb)))) (za (pv 7) zb)))))))))))))))),?_)
 generalize hK0:K=K1
 revert K1
 show jd #[] ?_;show !(zg h1 jF (!(!(zg h1 jF (hp,!(.inl (SqL.of d),~~~(hlen,zv d ea ?_)))))));show !(zg h1 jF (!(~~~(((),()),!(zg h1 jF (hp,!(.inl (SqL.of d),~~~(hlen,zv d eb ?_))))))));show !(zg h1 jF (.inl (rfl,_,SqL.of d),!(hp,_,_,(ze th q).idxOf a,rfl,rfl,SqL.of d,rfl,zV _,ia.1,ia.2,?_)));show !(zg h1 jF (.inl (rfl,_,SqL.of d),!(hp,_,_,(ze th q).idxOf b,rfl,rfl,SqL.of d,rfl,zV _,ib.1,ib.2,?_)));have aI:∀r∈rs,r.2.length=(ze th q).length:=λr m=>bQ r.2 (by rw[<-O];show qx.mpr (_,m,rfl))
 have U:∀r∈rs,(ze th q).idxOf a<r.2.length:=λr m=>by rw[aI r m];show qC.mpr I
 have ux:∀r∈rs,(ze th q).idxOf b<r.2.length:=λr m=>by rw[aI r m];show qC.mpr mb
 generalize hsa:(ze th q).idxOf a=sa at U;generalize hsb:(ze th q).idxOf b=n at ux;clear wp dq H1 n1 x1;have EQ:∀r∈rs,r.1≠wp:=λr m=>zq (l.2 r m).2 dq
 show !(zg (n1 _ _ h1) z1c (rp,rfl,(_,SqL.of (n1 _ _ l.1)),z1M (K:=K) (a:=rp) (xs:=refs rs) (λi σ H'=>∃(qs:List (Addr×List Int)) (o8 o9 R:Option V),σ= [some (.ref p),some (.int a6),some (.str g),some (.str a),some (.str b),some (.int ((sa:Nat):Int)),some (.int ((n:Nat):Int)),some (.ref wp),o8,o9,R,none,none,none]/\zw H H'/\RowsAt H' wp qs/\
  qs.map (·.2)=(jK sa ((rs.map (·.2)).take i)).map (yH sa n (rs.map (·.2)))) ([],none,none,none,rfl,n1,yE x1,rfl) (λi σ H' _ ⟨_,_,_,_,_,sm,_⟩=>SqL.of (sm _ _ l.1)) ?_ ?_))
 .rintro i x σ H2 D hN _ hi ⟨qs,o8,o9,R,rfl,s2,w2,c⟩;have o:i<rs.length:=by
   have:=(wg.mp hi).1
   rwa [G]at this
  rw[yb o]at hi;cases hi;have kl:(jK sa ((rs.map (·.2)).take i)).length<=100000:=by
   have:=z3M (s:=sa) ((rs.map (·.2)).take i);rw[wV,w9]at this
   lia
  have lq:qs.length=(jK sa ((rs.map (·.2)).take i)).length:=by
   have:=Qd List.length c
   rwa [w9,w9]at this
  have iJ:(refs qs).length=qs.length:=w9 _;have t:=z8T (s:=sa) (z1x o);have hR:=s2 _ _ (l.2 _ (wz o)).2;have N:=U _ (wz o);have qk:qs.map (λr=>r.2.getD 0 0)=jK sa ((rs.map (·.2)).take i):=by
   have:=Qd (List.map λr:List Int=>r.getD 0 0) c;rw[Qp,Qp]at this;show this.trans ?_
   conv=>rhs;rw[<-List.map_id (jK sa ((rs.map (·.2)).take i))]
   rfl
  have q3:∀r∈qs,r.2.length=3:=λr m=>by
   have:r.2∈qs.map (·.2):=qx.mpr (r,m,rfl);rw[c]at this;obtain⟨k,_,e⟩:=qx.mp this;rw[<-e]
   rfl
  generalize jK sa ((rs.map (·.2)).take i)=ks at c kl lq t qk;show !(!(zv hR (zR (int_at N)) (!(wp,rfl,(_,SqL.of w2.1),?_))));show jc (xs:=refs qs) (λm ys H'=>H'=H2/\ys=((qs.take m).map λr=>r.2.getD 0 0).map V.int) (rfl,rfl) ?_ ?_ ?_
  .rintro m ys y hm ⟨rfl,rfl⟩;show(SqL.of w2.1,zG (by rw[w9,w9,wV];lia))
  .rintro m x ys y hm ⟨rfl,rfl⟩;have J:m<qs.length:=by
    have:=(wg.mp hm).1
    rwa [iJ]at this
   rw[yb J]at hm;cases hm;show !(zv ((w2.2 _ (wz J)).2) (zR (j:=0) (int_at (by rw[q3 _ (wz J)];decide))) (rfl,?_));rw[wR,we J,wF,wF]
   rfl
  .rintro ys y ⟨rfl,rfl⟩ lp S;rw[iJ,qf,qk];clear lp S y n3 x3 lp;show(lp,!(.inl (SqL.of x3),rfl,zaX _,!?_));rw[z9u];have C:=s2.trans n3;have w3:=w2.same n3;show k7 (λX=>?_) (λX=>?_)
   .have M:¬rs[i].2.getD sa 0∈ks:=by simpa using X
    rw[wW M]at t;have B:=l.same C;show !(zg (C _ _ h1) z1c (rp,rfl,(_,SqL.of B.1),?_));show z0F (xs:=refs rs) (λm ys H'=>H'=y/\ys=refs ((rs.take m).filter λr=>decide (r.2.getD sa 0=rs[i].2.getD sa 0))) (rfl,rfl) ?_ ?_ ?_
    .rintro m ys H4 hm ⟨rfl,rfl⟩;show(SqL.of B.1,zG ?_);have:=qz (λr:Addr×List Int=>decide (r.2.getD sa 0=rs[i].2.getD sa 0)) (rs.take m);rw[w9];rw[wV]at this
     lia
    .rintro m x ys H4 hm ⟨rfl,rfl⟩;have L:m<rs.length:=by
      have:=(wg.mp hm).1
      rwa [G]at this
     rw[yb L]at hm;cases hm;have ft:=z17 (λr:Addr×List Int=>decide (r.2.getD sa 0=rs[i].2.getD sa 0)) rs (we L);show !(!(zv ((B.2 _ (wz L)).2) (zR (int_at (U _ (wz L)))) (!(!(zv ((B.2 _ (wz o)).2) (zR (int_at N)) (rfl,!?_))))));rw[z3o];show k7 (λhc=>?_) (λhc=>?_)
     .refine !(rfl,?_);rw[ft,qd hc];simp[refs]
     .refine(rfl,?_);rw[ft,wW hc,Q3]
    .rintro ys H4 ⟨rfl,rfl⟩ mp iK;rw[G,qf];clear mp iK H4 n4 x4 mp;have s4:=C.trans n4;have fl:(rs.filter λr=>decide (r.2.getD sa 0=rs[i].2.getD sa 0)).length<=rs.length:=qz _ _;have fm:∀r∈rs.filter (λr=>decide (r.2.getD sa 0=rs[i].2.getD sa 0)),r∈rs:=λr m=>(Qr.mp m).1
     have fe:(rs.filter λr=>decide (r.2.getD sa 0=rs[i].2.getD sa 0)).map (·.2)=(rs.map (·.2)).filter λr=>decide (r.getD sa 0=rs[i].2.getD sa 0):=by
      rw[w00]
      rfl
     generalize (rs.filter λr=>decide (r.2.getD sa 0=rs[i].2.getD sa 0))=fs at x4 fl fm fe;have rJ:(refs fs).length=fs.length:=w9 _;have j4:=l.same s4;show !(mp,rfl,(_,SqL.of x4),?_);show jc (xs:=refs fs) (λm ys H'=>H'=H4/\ys=((fs.take m).map λr=>r.2.getD n 0).map V.int) (rfl,rfl) ?_ ?_ ?_
     .rintro m ys H5 hm ⟨rfl,rfl⟩;show(SqL.of x4,zG (by rw[w9,w9,wV];lia))
     .rintro m x ys H5 hm ⟨rfl,rfl⟩;have Z:m<fs.length:=by
       have:=(wg.mp hm).1
       rwa [rJ]at this
      rw[yb Z]at hm;cases hm;have mr:=fm _ (wz Z);show !(!(zv ((j4.2 _ mr).2) (zR (int_at (ux _ mr))) (rfl,?_)));rw[wR,we Z,wF,wF]
      rfl
     .rintro ys H5 ⟨rfl,rfl⟩ tp aw;rw[rJ,qf];clear tp aw H5 n5 x5 tp;show(tp,!(SqL.of x5,?_));have u:=s4.trans n5;have Y:=w3.same (n4.trans n5);show !(.inl (rfl,_,SqL.of Y.1),!(!(zv (u _ _ (l.2 _ (wz o)).2) (zR (int_at N)) (!(mp,!(.inl (SqL.of (n5 _ _ x4)),!((yG rfl),λgp z=>?_)))))));have n6:=zz z (.lst [V.int (rs[i].2.getD sa 0),V.int (((refs fs).length:Nat):Int),V.int (fs.map λr=>r.2.getD n 0).sum]);have w6:=Y.same n6;show(wp,~~~(w6.1,zG (by rw[w9];lia),?_));have nq:gp≠wp:=(zq Y.1 z).symm;show hN _ _ (qs++[(gp,[rs[i].2.getD sa 0,((fs.length:Nat):Int),(fs.map λr=>r.2.getD n 0).sum])],_,_,!((u.trans n6).put dq,w6.push nq (by rw[zh,rJ];rfl),?_));rw[wF,c,t,wF]
      congr 1
      change [_]= [yH sa n (rs.map (·.2)) (rs[i].2.getD sa 0)]
      unfold yH;rw[<-fe,w9,Qp]
      rfl
   .have M:rs[i].2.getD sa 0∈ks:=by simpa using X
    rw[qd M]at t;show hN _ _ (qs,_,_,!(C,w3,?_));rw[c,t]
 .rintro σ H2 ⟨qs,o8,o9,R,rfl,s2,w2,c⟩;rw[G,show(rs.map (·.2)).take rs.length=rs.map (·.2)from Q0 (by rw[w9];show wA _)]at c;have g1:=s2 _ _ h1;show !(~~~(⟨⟩,!(~~~(⟨⟩,~~~(⟨⟩,!(~~~(⟨⟩,~~~(⟨⟩,!(~~~(⟨⟩,?_))))))))));show !(~~~(⟨⟩,~~~(⟨⟩,!(zg g1 j8 (~~~(⟨⟩,~~~(⟨⟩,?_)))))));show !(!(!(~~~(⟨⟩,!(~~~(⟨⟩,!(zg g1 zH ?_)))))));clear qp dG y n3 x3;show !(!(!(!(~~~(⟨⟩,!(~~~(⟨⟩,(yG rfl),λlp S=>?_)))))));clear lp S H4 n4 x4 lp;show !?_;clear sp aq H5 n5 x5;have lU:=n3.trans (n4.trans n5);have u:=s2.trans lU;have el:(("(group ":Str)++(a ++ " " ++ b ++ " n" ++ g ++ " s" ++ g) ++ " " ++ zy q ++ ")":Str)=zy (.group a b (("n":Str)++g) (("s":Str)++g) q):=by
   simp only[zy];have e1:(" n":Str)=(" ":Str)++("n":Str):=by decide
   have c:(" s":Str)=(" ":Str)++("s":Str):=by decide
   rw[e1,c];simp only[Str.append_assoc]
  rw[el]at x5;show fin _ a b _ u (sp,_,lp,wp,qs,rfl,x5,(qp,qv,rfl,n5 _ _ (n4 _ _ x3),h2.same u),n5 _ _ x4,w2.same lU,?_) I mb;rw[c,O];simp only[rowsOf,z2S,hsa,hsb]
noncomputable def zu:Qn->Nat
 | .table _=>1
 | .pick _ q | .cols _ q | .first _ q | .group _ _ _ _ q | .sort _ q=>zu q
 | .pair q r | .join _ _ q r | .both q r=>zu q+zu r
theorem yn(q:Qn):1<=zu q:=by induction q<;>simp only[zu]<;>lia
def kM(th:Str->List Str)(tr:Str->List (List Int)):Qn->Prop
 | .table n=>(tr n).length<=60
 | .pick _ q | .cols _ q | .first _ q | .group _ _ _ _ q | .sort _ q=>kM th tr q
 | .pair q r | .join _ _ q r=>kM th tr q/\kM th tr r/\(rowsOf th tr q).length*(rowsOf th tr r).length<=60
 | .both q r=>kM th tr q/\kM th tr r/\(rowsOf th tr q).length+(rowsOf th tr r).length<=60
theorem z9j(T:TabOk th tr):∀n∈tabs,(tr n).length<=60:=by
 intro n hn;simp only[tabs,wL,qA,QQ]at hn;rcases hn with rfl|rfl|rfl|rfl
 .exact T.ct
 .have:=T.cw;lia
 .have:=T.cx;lia
 .have:=T.cz;lia
structure Rt(th:Str->List Str)(tr:Str->List (List Int))(n:Str)(r:Qn)(k:Nat):Prop where
 ok:okQ th r
 hd:ze th r=th n
 ln:(rowsOf th tr r).length<=(tr n).length
 li:(zy r).length<=10+100*k
 dp:depth r<=1+2*k
 sub:kM th tr r
 lv:zu r=1
structure Un2(th:Str->List Str)(tr:Str->List (List Int))(q:Qn)(n:Str)(q':Qn):Prop where
 ok:okQ th q'
 hd:ze th q'=ze th q++th n\/ze th q'=th n++ze th q
 ln:(rowsOf th tr q').length<=(rowsOf th tr q).length*(tr n).length
 li:(zy q').length<=(zy q).length+600
 dp:depth q'<=max (depth q) 5+2
 nt:∀m,q'≠ .table m
 sub:kM th tr q->(rowsOf th tr q).length*(tr n).length<=60->kM th tr q'
 lv:zu q'=zu q+1
theorem pairs_len(xs ys:List (List Int)):(pairs xs ys).length=xs.length*ys.length:=by
 unfold pairs
 induction xs with
 | nil=>simp
 | cons x xs a=>
  rw[QU,wm,w9,a,wP,w07,w1l,Nat.add_comm]
theorem z4G{xs ys:List (List Int)}(h:xs[i]? =some x):pairs (xs.take (i+1)) ys=pairs (xs.take i) ys++ys.map λy=>x++y:=by
 unfold pairs;rw[wR,h,w13];simp
theorem z3D(s:Nat)(rows:List (List Int)):(ke s rows).length=rows.length:=by
 unfold ke;rw[w9,z8s]
inductive spUnited (K:W.Frag) (vs:List V) (H:Hp) (Q:VK) (E:XK):Prop
 | mk:∀th tr q n v tv a6,vs= [v,tv,.int a6]->TabOk th tr->StAt th tr H v q->okQ th q->TabAt th tr H tv n->n∈tabs->(∀x∈ze th q,x∉th n)->(zy q).length<=4000000->(rowsOf th tr q).length<=1000->(tr n).length<64->(ze th q).length<=1000->(th n).length<=1000->(∀(v':V) (q':Qn) (H':Hp),zw H H'->StAt th tr H' v' q'->Un2 th tr q n q'->Q v' H')->spUnited K vs H Q E
theorem zcv:∀n∈tabs,n.length<=10:=by decide
theorem z9T{r:List Int}{s:Str}(h:s∈hs)(hl:r.length=hs.length):hs.idxOf s<r.length:=by rw[hl];show qC.mpr h
inductive UnJ (th:Str->List Str) (tr:Str->List (List Int)) (v:V) (tp:Addr) (a6:Int) (q:Qn) (n:Str) (H4:Hp) (σ:St) (H5:Hp):Prop
 | mk:∀(lv wv:V) (ql qr:Qn),σ= [some v,some (.ref tp),some (.int a6),some lv,some wv,none,none,none,none,none,none,none,none,none,none,none]->H5=H4->StAt th tr H4 lv ql->StAt th tr H4 wv qr->okQ th ql->okQ th qr->(∀x∈ze th ql,x∉ze th qr)->(zy ql).length+(zy qr).length<=(zy q).length+300->(rowsOf th tr ql).length*(rowsOf th tr qr).length<=(rowsOf th tr q).length*(tr n).length->(rowsOf th tr ql).length<=1000->(rowsOf th tr qr).length<=1000->(ze th ql).length<=1000->(ze th qr).length<=1000->(ze th ql++ze th qr=ze th q++th n\/ze th ql++ze th qr=th n++ze th q)->max (depth ql) (depth qr)<=max (depth q) 5->(kM th tr q->kM th tr ql/\kM th tr qr)->zu ql+zu qr=zu q+1->UnJ th tr v tp a6 q n H4 σ H5
theorem zx:FnScope ["_law_state","_law_table","_law_seed","_law_left","_law_right","_law_heads","_law_rows","_law_one","_law_two","_law_name","_law_other","_law_line","_law_question","_law_spot","_law_place","_law_same"] ["_law_state","_law_table","_law_seed"] (zi z07):=by done
theorem z4B(F:Fun K "_law_united" "_law_united" z07 f fd)(T:Txt K mg)(l:Kn P w K mg base 1 "_law_sorted" ["_law_state","_law_seed"] (spSorted K))(d:Kn P w K mg base 1 "_law_headed" ["_law_state","_law_seed"] (spHeaded K)):FnOk P w K mg base CX0 2 f fd ["_law_state","_law_table","_law_seed"] (spUnited K):=by
 clear zx vs H Q E h F;obtain⟨th,tr,q,n,v,tv,a6,rfl,TT,aD,hok,ht,mn,dj,fY,b7,nZ,gP,uy,fin⟩:=h;obtain⟨tp,o0,lV,ts,rfl,t1,t3,t4,t5⟩:=ht;have nl:=zcv n mn;intro aa A outer sh hr;have hu:=z1P hr;show(_,(zc (seT 3 zx v0)
  (zc (seT 4 zx (zD (zQ (zD (zr zn (zl (ixT v1 zd) zb))) (zl (ixT v1 zd) (zl (ixT v1 zd) (zl (ixT v1 zd) zb))))))
  (zc (kX (cmT zO (zo zW v2 zd) zd)
   (zf (seT 4 zx (zS l hr.m (za v4 (yq (zo jZ v2 zd) zb)))))
   zt)
  (zc (kX (cmT zO (zo zW v2 zd) zd)
   (zf (seT 4 zx (zS d hr.m (za v4 (zr zd zb)))))
   zt)
  (zc (kX (cmT zO (zo zW (zo jZ v2 zd) zd) zd)
   (zc (seT 3 zx v4)
   (zf (seT 4 zx v0)))
   zt)
  (zc (seT 5 zx (zo kF (ixT v3 zd) (ixT v4 zd)))
  (zc (seT 6 zx (zC zb))
  (zc (foR (zT (ixT v3 zd)) (gnM 7 zx)
   (zf (foR (zT (ixT v4 zd)) (gnM 8 zx)
    (zf (j7 (apP (pv 6) (yq (zo kF (pv 7) (pv 8)) zb)))))))
  (zc (seT 9 zx (ixL (ixT v3 zd) (zo zW (zo jZ v2 zd) (leN T.len (zl (ixT v3 zd) zb)))))
  (zc (seT 10 zx (ixL (ixT v4 zd) (zo zW (zo jZ v2 zd) (leN T.len (zl (ixT v4 zd) zb)))))
  (zc (seT 11 zx (zo zm (zo zm (zo zm (zo zm zn (ixT v3 zd)) zn) (ixT v4 zd)) zn))
  (zc (seT 12 zx (zD (zr zn (zl (ixT v3 zd) (zl (ixT v4 zd) zb)))))
  (zc (zB (cmT zO (zo zW v2 zd) zd)
   (zf (zp (zD (za (pv 12) (za (pv 11) (za v5 (za (pv 6) zb)))))))
   zt)
  (zc (yN (i:=13) zx.nd rfl (QV rfl) (kg wO qG qI yf v5 (za (pv 9) zb)))
  (zc (yN (i:=14) zx.nd rfl (QV rfl) (kg wO qG qI yf v5 (za (pv 10) zb)))
  (zc (y0 (j:=15) rfl zx.nd rfl (w0g rfl) (CompSc.of (sx:=zi z07) (NX:= ["_law_state","_law_table","_law_seed","_law_left","_law_right","_law_heads","_law_rows","_law_one","_law_two","_law_name","_law_other","_law_line","_law_question","_law_spot","_law_place","_law_same"]) (fr:= ["_law_spot","_law_place"]) (ix:= [13,14]) rfl rfl ()) (zT (pv 6)) (λk k k k k k=>(z2o (cmT zO (yz (yA (K:=K) rfl) v0 v1 (λk k=>rfl)) (yz (yA (K:=K) rfl) v0 v2 (λk k=>rfl))))) (λk k k k k k=>v0))
  (zc (zB (z3n (cmT (z53 hu) (pv 15) (zC zb)) (cmT z5Q (zo zW v2 zd) zd))
   (zf (zp (zD (za (pv 12) (za (pv 11) (za v5 (za (pv 6) zb)))))))
   zt)
  (zc (seT 6 zx (pv 15))
  (zc (kX (cmT zO (zo zW v2 zd) zd)
   (zc (seT 11 zx (zo zm (zo zm (zo zm (zo zm (zo zm (zo zm (zo zm (zo zm zn (pv 9)) zn) (pv 10)) zn) (ixT v3 zd)) zn) (ixT v4 zd)) zn))
   (zf (seT 12 zx (zD (zr zn (za (pv 9) (za (pv 10) (zl (ixT v3 zd) (zl (ixT v4 zd) zb)))))))))
   (zf (zB (cmT zO (zo zW v2 zd) zd)
    (zc (seT 11 zx (zo zm (zo zm (zo zm (zo zm (zo zm (zo zm zn (pv 10)) zn) (pv 9)) zn) (pv 11)) zn))
    (zf (seT 12 zx (zD (zr zn (zQ (zD (zr zn (za (pv 10) (za (pv 9) zb)))) (za (pv 12) zb)))))))
    (zc (seT 11 zx (zo zm (zo zm (zo zm (zo zm (zo zm (zo zm zn (pv 9)) zn) (pv 10)) zn) (pv 11)) zn))
    (zf (seT 12 zx (zD (zr zn (zQ (zD (zr zn (za (pv 9) (za (pv 10) zb)))) (za (pv 12) zb))))))))))
  (zf (zp (zD (za (pv 12) (za (pv 11) (za v5 (za (pv 6) zb)))))))))))))))))))))))))),?_)
 generalize hK0:K=K1
 revert K1
 show jd #[] ?_;show !?_;show !(zg t1 zH ?_);clear qp dG H1 n1 x1;have gO:=n1 _ _ t1;show !(zg gO zH (!(zg gO j8 (!(zg gO jF ?_)))));clear sp0 hsp0 H2 n2 x2;have s2:=n1.trans n2;have b9:StAt th tr H2 (.ref sp0) (.table n):=(sp0,_,o0,lV,ts,rfl,x2,(qp,rfl,n2 _ _ x1),s2 _ _ t3,t4.same s2,t5);have R:Rt th tr n (.table n) 0:=(mn,rfl,wA _,nl,wA _,z9j TT n mn,rfl);show exJ (λσ H3=>∃(U:V) (r:Qn),σ= [some v,some (.ref tp),some (.int a6),some v,some U,none,none,none,none,none,none,none,none,none,none,none]/\zw H H3/\StAt th tr H3 U r/\Rt th tr n r 1) (λJ C=>?_) ?_
 .refine !(~~~((by change(0:Int)<7;decide),rfl,!?_));show k7 (λS=>?_) (λS=>?_)
  .refine !(!(~~~(((),()),th,tr,.table n,_,_,rfl,TT,b9,mn,by have:(zy (.table n)).length<=10:=nl;lia,nZ,λv' a H' s' am X=>?_)));show C _ _ (v',!(s2.trans s',am,(X,mn),rfl,by change(ke _ _).length<=_;rw[z3D];show wA _,?_,by change 1+1<=1+2*1;decide,z9j TT n mn,rfl));have la:=z5E TT n mn a X;simp only[zy]
   (walk_at "sl")
  .exact C _ _ (_,!(s2,b9,R.ok,R.hd,R.ln,by have:=R.li;lia,by have:=R.dp;lia,R.sub,R.lv))
 rintro σ H3 ⟨U,r,rfl,s3,ax,c⟩;show exJ (λσ H4=>∃(U:V) (r:Qn),σ= [some v,some (.ref tp),some (.int a6),some v,some U,none,none,none,none,none,none,none,none,none,none,none]/\zw H H4/\StAt th tr H4 U r/\Rt th tr n r 2) (λJ C=>?_) ?_
 .refine !(~~~((by change(0:Int)<7;decide),rfl,!?_));show k7 (λS=>?_) (λS=>?_)
  .refine !(th,tr,r,_,_,rfl,ax,by have:=c.li;lia,λv' q' H' s' am aK=>?_);show C _ _ (v',q',rfl,s3.trans s',am,?_);obtain⟨m,mm,aK⟩:=aK;have lm:=(z0h m mm).1;have ER:=c.li;have ES:=c.dp;rcases aK with rfl|⟨m',fG,rfl⟩
   .refine((mm,c.ok),c.hd,?_,?_,?_,c.sub,c.lv)
    .show((rowsOf th tr r).take _).length<=_
     rw[wV];have:=c.ln
     lia
    .simp only [zy]
     (walk_at "sl")
    .show depth r+1<=_
     lia
   .have ET:=(z0h m' fG).1;show((fG,mm,c.ok),c.hd,?_,?_,?_,c.sub,c.lv)
    .show(((rowsOf th tr r).take _).take _).length<=_
     rw[wV,wV];have:=c.ln
     lia
    .simp only [zy]
     (walk_at "sl")
    .show depth r+1+1<=_
     lia
  .exact C _ _ (_,!(s3,ax,c.ok,c.hd,c.ln,by have:=c.li;lia,by have:=c.dp;lia,c.sub,c.lv))
 clear ax c;rintro σ H4 ⟨U,r,rfl,s4,fZ,s⟩;have EU:=s.li;have EV:=s.dp;have uz:=s.ln;have uA:∀x∈ze th q,x∉ze th r:=by rw[s.hd];show dj
 have lZ:=aD.same s4;have EW:(zy r).length<=300:=by lia
 show exJ (UnJ th tr v tp a6 q n H4) (λJ C=>?_) ?_
 .refine !(~~~(((),()),~~~((by change(0:Int)<2;decide),rfl,!?_)));show k7 (λS=>?_) (λS=>?_)
  .refine !?_;show !?_;show C _ _ (_,_,r,q,rfl,rfl,fZ,lZ,s.ok,hok,λx hx hy=>uA x hy hx,∅,?_,∅,b7,by rw[s.hd];show uy,gP,.inr (by rw[s.hd]),∅,λh=>(s.sub,h),by rw[s.lv,Nat.add_comm]);rw[Nat.mul_comm];show QR _ uz
  .exact C _ _ (_,_,q,r,rfl,rfl,lZ,fZ,hok,s.ok,uA,∅,QR _ uz,b7,∅,gP,by rw[s.hd];show uy,.inl (by rw[s.hd]),∅,λh=>(h,s.sub),by rw[s.lv])
 rintro σ H5 ⟨lv,wv,ql,qr,rfl,rfl,An,str,m4,g6,uB,EX,oi,uC,uD,iL,bx,iD,EY,Y,rL⟩;have uE:=jz TT m4;have uF:=jz TT g6;have Ao:=ja TT m4;have Ap:=ja TT g6;have Aq:=jG TT m4;have As:=jG TT g6;obtain⟨p1,iI,aJ,dk,p,rfl,a1,a2,a3,a4,a5⟩:=An;obtain⟨p2,bY,bf,dM,t,rfl,b1,b2,b3,b4,b5⟩:=str;have l1:p.length<=1000:=by rw[<-a5,w9]at uC;show uC
 have l2:t.length<=1000:=by rw[<-b5,w9]at uD;show uD
 have m6:(refs p).length=p.length:=w9 _;have gT:(refs t).length=t.length:=w9 _;have w1:∀r∈p,r.2.length=(ze th ql).length:=λr m=>Aq r.2 (by rw[<-a5];show qx.mpr (_,m,rfl))
 have w2:∀r∈t,r.2.length=(ze th qr).length:=λr m=>As r.2 (by rw[<-b5];show qx.mpr (_,m,rfl))
 show !(zg a1 jF (!(zg b1 jF (_,_,~~~(a3,b3,jb (by rw[w9,w9];lia),λhp cE=>?_)))));rw[<-wF];clear hp cE H6 n6 x6 hp;clear wp dq H7 n7 x7;have oj:=n6.trans n7;have f5:H5 wp=none:=n6.free dq;show !(zg (oj _ _ a1) z1c (dk,rfl,(_,SqL.of (oj _ _ a4.1)),z1M (K:=K) (a:=dk) (xs:=refs p) (λi σ H'=>∃(ds:List (Addr×List Int)) (o7 o8:Option V),σ= [some v,some (.ref tp),some (.int a6),some (.ref p1),some (.ref p2),some (.ref hp),some (.ref wp),o7,o8,none,none,none,none,none,none,none]/\zw H6 H'/\RowsAt H' wp ds/\
  ds.map (·.2)=pairs ((p.map (·.2)).take i) (t.map (·.2))/\ds.length<=i*1000) ([],none,none,rfl,n7,yE x7,rfl,wA _) (λi σ H' _ ⟨_,_,_,_,sm,_⟩=>SqL.of (sm _ _ (n6 _ _ a4.1))) ?_ ?_))
 .rintro i x σ H8 D hN _ hi ⟨ds,o7,o8,rfl,s8,hd,L,ld⟩;have N:i<p.length:=by
   have:=(wg.mp hi).1
   rwa [m6]at this
  rw[yb N]at hi;cases hi;have G:=n6.trans s8;show !(zg (G _ _ b1) z1c (dM,rfl,(_,SqL.of (G _ _ b4.1)),z1M (K:=K) (a:=dM) (xs:=refs t) (λj σ H'=>∃(ds:List (Addr×List Int)) (o8:Option V),σ= [some v,some (.ref tp),some (.int a6),some (.ref p1),some (.ref p2),some (.ref hp),some (.ref wp),some (.ref p[i].1),o8,none,none,none,none,none,none,none]/\zw H6 H'/\RowsAt H' wp ds/\
   ds.map (·.2)=pairs ((p.map (·.2)).take i) (t.map (·.2))++((t.map (·.2)).take j).map (λo=>p[i].2++o)/\ds.length<=i*1000+j) (ds,o8,rfl,s8,hd,by rw[L];simp,∅) (λj σ H' _ ⟨_,_,_,sm,_⟩=>SqL.of (sm _ _ (n6 _ _ b4.1))) ?_ ?_))
  .rintro j y σ H9 D2 hM _ hj ⟨ds,o8,rfl,s9,hd,L,ld⟩;have bZ:j<t.length:=by
    have:=(wg.mp hj).1
    rwa [gT]at this
   rw[yb bZ]at hj;cases hj;have O:=n6.trans s9;have hR:=O _ _ (a4.2 _ (wz N)).2;have hO:=O _ _ (b4.2 _ (wz bZ)).2;have uG:=w1 _ (wz N);have dy:=w2 _ (wz bZ);show !(.inl (rfl,_,SqL.of hd.1),!(!(_,_,~~~(hR,hO,jb (by rw[w9,w9];lia),λq1 gU=>?_))));have nn:=zz gU (.lst (p[i].2.map V.int++t[j].2.map V.int));have dz:=hd.same nn;show(wp,~~~(dz.1,zG (by rw[w9];lia),?_));have nq:q1≠wp:=(zq hd.1 gU).symm;show hM _ _ (ds++[(q1,p[i].2++t[j].2)],!((s9.trans nn).put dq,dz.push nq (by rw[zh,wF]),?_,by rw[wm,wJ];lia));rw[wF,L,wR,z1x bZ,wF,QE]
   rfl
  .rintro σ H9 ⟨ds,o8,rfl,s9,hd,L,ld⟩;show hN _ _ (ds,_,!(s9,hd,?_,by rw[gT]at ld;lia));rw[L,z4G (z1x N),gT,show(t.map (·.2)).take t.length=t.map (·.2)from Q0 (by rw[w9];show wA _)]
 rintro σ H8 ⟨ds,o7,o8,rfl,s8,hd,L,ld⟩;rw[m6,show(p.map (·.2)).take p.length=p.map (·.2)from Q0 (by rw[w9];show wA _),a5,b5]at L;have G:=n6.trans s8;have EZ:=s4.trans G;have x8:=s8 _ _ x6;have a8:=G _ _ a1;have b8:=G _ _ b1;have m7:(0:Int)<((((ze th ql).map V.str).length:Nat):Int):=by
  have:=w06.mpr uE.1;rw[w9];lia
 have m8:(0:Int)<((((ze th qr).map V.str).length:Nat):Int):=by
  have:=w06.mpr uF.1;rw[w9];lia
 obtain⟨a,X,ea⟩:=z1C (i:=a6/8) uE.1;obtain⟨b,mb,eb⟩:=z1C (i:=a6/2) uF.1;have la:=Ao a X;have lb:=Ap b mb;show !(zg a8 jF (!(~~~(((),()),!(zg a8 jF (aJ,!(.inl (SqL.of (G _ _ a3)),~~~(m7,zv (G _ _ a3) ea ?_))))))));show !(zg b8 jF (!(~~~(((),()),!(zg b8 jF (bf,!(.inl (SqL.of (G _ _ b3)),~~~(m8,zv (G _ _ b3) eb ?_))))))));show !(zg a8 j8 (~~~(⟨⟩,~~~(⟨⟩,!(zg b8 j8 (~~~(⟨⟩,~~~(⟨⟩,?_))))))));show !(zg a8 zH (!(zg b8 zH ?_)));clear pp rM H9 n9 x9;have O:=G.trans n9;have rN:QAt H9 (.pair ql qr) (.ref pp):=(pp,iI,bY,rfl,x9,a2.same O,b2.same O);have m9:=hd.same n9;have Au:(zy (.pair ql qr)).length<=(zy q).length+310:=by simp only[zy];(walk_at "sl")
 have uH:ds.map (·.2)=rowsOf th tr (.pair ql qr):=L;have md:(rowsOf th tr (.pair ql qr)).length<=(rowsOf th tr q).length*(tr n).length:=by change(pairs _ _).length<=_;rw[pairs_len];show oi
 have rO:okQ th (.pair ql qr):=(uB,m4,g6);have F1:depth (.pair ql qr)<=max (depth q) 5+1:=by change max _ _+1<=_;lia
 have Av:Un2 th tr q n (.pair ql qr):=(rO,iD,md,∅,∅,λk=>nofun,λh hp=>((Y h).1,(Y h).2,wY oi hp),rL);have Aw:∀r∈ds,r.2.length=(ze th ql++ze th qr).length:=λr m=>jG TT rO r.2 (by rw[<-uH];show qx.mpr (_,m,rfl))
 have F2:ds.length<=1000000:=by lia
 have uI:(refs ds).length=ds.length:=w9 _;have uJ:a∈ze th ql++ze th qr:=q5 _ X;have uK:b∈ze th ql++ze th qr:=wC _ mb;have uL:=s4.trans O;have asPair:∀(σ:St) {I:Hp},zw H9 I->∀sp,I sp=none->Q (.ref sp) (upd I sp (.tup [.ref pp,.str (zy (.pair ql qr)),.ref hp,.ref wp])):=λσ I oe sp Z=>by
  have aY:=zz Z (.tup [.ref pp,.str (zy (.pair ql qr)),.ref hp,.ref wp]);have B:=oe.trans aY;show fin _ (.pair ql qr) _ (uL.trans B) (sp,_,hp,wp,ds,rfl,zh,rN.same B,B _ _ (n9 _ _ x8),m9.same B,uH) Av
 show !(~~~((by change(0:Int)<4;decide),rfl,!?_));show k7 (λS=>?_) (λS=>?_)
 .exact !(!(!(!((yG rfl),λsp Z=>asPair [] (zw.refl _) sp Z))))
 have ia:=ji uJ;have ib:=ji uK;have mf:=n9 _ _ x8;show !(.inl (rfl,_,SqL.of mf),!(hp,_,_,(ze th ql++ze th qr).idxOf a,rfl,rfl,SqL.of mf,rfl,zV _,ia.1,ia.2,?_));show !(.inl (rfl,_,SqL.of mf),!(hp,_,_,(ze th ql++ze th qr).idxOf b,rfl,rfl,SqL.of mf,rfl,zV _,ib.1,ib.2,?_));show !(wp,rfl,(_,SqL.of m9.1),?_);show z0F (xs:=refs ds) (λi ys H'=>H'=H9/\ys=refs ((ds.take i).filter λr=>decide (r.2.getD ((ze th ql++ze th qr).idxOf a) 0=r.2.getD ((ze th ql++ze th qr).idxOf b) 0))) (rfl,rfl) ?_ ?_ ?_
 .rintro i ys H' hi ⟨rfl,rfl⟩;show(SqL.of m9.1,zG ?_);have:=qz (λr:Addr×List Int=>decide (r.2.getD ((ze th ql++ze th qr).idxOf a) 0=r.2.getD ((ze th ql++ze th qr).idxOf b) 0)) (ds.take i);rw[w9];rw[wV]at this
  lia
 .rintro i x ys H' hi ⟨rfl,rfl⟩;have N:i<ds.length:=by
   have:=(wg.mp hi).1
   rwa [uI]at this
  rw[yb N]at hi;cases hi;have aU:=(m9.2 _ (wz N)).2;have wl:=Aw _ (wz N);have ft:=z17 (λr:Addr×List Int=>decide (r.2.getD ((ze th ql++ze th qr).idxOf a) 0=r.2.getD ((ze th ql++ze th qr).idxOf b) 0)) ds (we N);show !(!(zv aU (zR (int_at (z9T uJ wl))) (!(!(zv aU (zR (int_at (z9T uK wl))) (rfl,!?_))))));rw[z3o];show k7 (λhc=>?_) (λhc=>?_)
  .refine !(rfl,?_);rw[ft,qd hc];simp[refs]
  .refine(rfl,?_);rw[ft,wW hc,Q3]
 rintro ys H' ⟨rfl,rfl⟩ np ag;rw[uI,qf];clear np ag I bt dL np;have rc:=yj ag bt dL λr m=>(m9.2 r (Qr.mp m).1).2
 have fe:(ds.filter λr=>decide (r.2.getD ((ze th ql++ze th qr).idxOf a) 0=r.2.getD ((ze th ql++ze th qr).idxOf b) 0)).map (·.2)=rowsOf th tr (.join a b ql qr):=by
  change _=List.filter _ (pairs _ _)
  rw[<-L,w00]
  rfl
 have uM:(rowsOf th tr (.join a b ql qr)).length<=(rowsOf th tr q).length*(tr n).length:=wY (qz _ _) md;generalize (ds.filter λr=>decide (r.2.getD ((ze th ql++ze th qr).idxOf a) 0=r.2.getD ((ze th ql++ze th qr).idxOf b) 0))=fs at dL rc fe;show !?_;clear ep hep H11 aY fX;show(np,ep,!(rfl,SqL.of (aY _ _ dL),SqL.of fX,!(_,(!(~~~((by change(0:Int)<5;decide),~~~(!(rfl,rfl))))),?_)));have B:=bt.trans aY;show k7 (λfB=>?_) (λfB=>?_)
 .exact !(!(!(!((yG rfl),λsp Z=>asPair [] B sp Z))))
 show !?_;have uN:=B _ _ (n9 _ _ a8);have uO:=B _ _ (n9 _ _ b8);have rP:=O.trans B;show exJ (λσ u=>∃(qv:V) (q':Qn),σ= [some v,some (.ref tp),some (.int a6),some (.ref p1),some (.ref p2),some (.ref hp),some (.ref np),o7,o8,some (.str a),some (.str b),some (.str (zy q')),some qv,some (.int (((ze th ql++ze th qr).idxOf a:Nat):Int)),some (.int (((ze th ql++ze th qr).idxOf b:Nat):Int)),some (.ref np)]/\zw H11 u/\QAt u q' qv/\ze th q'=ze th ql++ze th qr/\rowsOf th tr q'=rowsOf th tr (.join a b ql qr)/\Un2 th tr q n q') (λJ C=>?_) ?_
 .refine !(~~~((by change(0:Int)<4;decide),rfl,!?_));show k7 (λhc=>?_) (λhc=>?_)
  .refine !(~~~(⟨⟩,~~~(⟨⟩,!(~~~(⟨⟩,~~~(⟨⟩,!(zg uN j8 (~~~(⟨⟩,~~~(⟨⟩,!(zg uO j8 (~~~(⟨⟩,~~~(⟨⟩,?_))))))))))))));show !(!(!(zg uN zH (!(zg uO zH ?_)))));clear jp hjp u n12 x12;have mh:=rP.trans n12;show C _ _ (_,.join a b ql qr,rfl,n12,(jp,iI,bY,rfl,x12,a2.same mh,b2.same mh),rfl,rfl,(X,mb,uB,m4,g6),iD,uM,?_,?_,λk=>nofun,λh hp=>((Y h).1,(Y h).2,wY oi hp),rL)
   .simp only [zy];(walk_at "sl")
   .show max _ _+1<=_;lia
  .refine !(~~~((by change(0:Int)<4;decide),rfl,!?_));have rQ:∀{x y:Str} (M:(x=b/\y=a)\/(x=a/\y=b)),rowsOf th tr (.pick (.same (.nm x) (.nm y)) (.pair ql qr))=rowsOf th tr (.join a b ql qr):=λ{x y} M=>by
    change List.filter _ (pairs _ _)=List.filter _ (pairs _ _)
    show w0w λz k=>?_
    rcases M with⟨rfl,rfl⟩|⟨rfl,rfl⟩
    .show decide (z.getD ((ze th ql++ze th qr).idxOf _) 0=z.getD ((ze th ql++ze th qr).idxOf _) 0)=_
     show w1s.mpr eq_comm
    .rfl
   have mk:∀{x y:Str} (M:(x=b/\y=a)\/(x=a/\y=b)),Un2 th tr q n (.pick (.same (.nm x) (.nm y)) (.pair ql qr)):=λ{x y} M=>by
    have mx:x∈ze th ql++ze th qr:=by rcases M with⟨rfl,rfl⟩|⟨rfl,rfl⟩<;>assumption
    have my:y∈ze th ql++ze th qr:=by rcases M with⟨rfl,rfl⟩|⟨rfl,rfl⟩<;>assumption
    have lx:x.length<=10:=by rcases M with⟨rfl,rfl⟩|⟨rfl,rfl⟩<;>assumption
    have ly:y.length<=10:=by rcases M with⟨rfl,rfl⟩|⟨rfl,rfl⟩<;>assumption
    show(((mx,my),by simp[Cond.size],rO),iD,by rw[rQ M];show uM,?_,?_,λk=>nofun,λh hp=>((Y h).1,(Y h).2,wY oi hp),rL)
    .simp only [zy,yu,ends,Side.txt];simp only[zy]at Au;(walk_at "sl")
    .show depth (.pair ql qr)+1<=_;lia
   have line:∀x y:Str,("(pick (same " ++ x ++ " " ++ y ++ ") " ++ zy (.pair ql qr) ++ ")":Str)=zy (.pick (.same (.nm x) (.nm y)) (.pair ql qr)):=λx y=>by
    have e:zy (.pick (.same (.nm x) (.nm y)) (.pair ql qr))=("(pick ":Str)++("(" ++ "same" ++ " " ++ (x ++ " " ++ y) ++ ")") ++ " " ++ zy (.pair ql qr) ++ ")":=rfl;rw[e];have e1:("(pick (same ":Str)=("(pick ":Str)++("(" ++ "same" ++ " "):=by decide
    have e2:(") ":Str)=(")":Str) ++ " ":=by decide
    rw[e1,e2];simp only[Str.append_assoc]
   have Ax:(zy (.pair ql qr)).length<=4000310:=by lia
   show k7 (λcY=>?_) (λcY=>?_)
   .refine !(~~~(⟨⟩,~~~(⟨⟩,!(~~~(⟨⟩,~~~(⟨⟩,!(_,zy (.pair ql qr),rfl,rfl,⟨⟩,~~~(⟨⟩,?_))))))));show !(!?_);clear cp bP u n12 x12;show !?_;clear jp hjp H13 aA x13;show C _ _ (_,.pick (.same (.nm b) (.nm a)) (.pair ql qr),by rw[<-line];rfl,n12.trans aA,(jp,_,!(x13,(cp,rfl,aA _ _ x12),rN.same (B.trans (n12.trans aA)))),rfl,rQ (.inl (rfl,rfl)),mk (.inl (rfl,rfl)))
   .refine !(~~~(⟨⟩,~~~(⟨⟩,!(~~~(⟨⟩,~~~(⟨⟩,!(_,zy (.pair ql qr),rfl,rfl,⟨⟩,~~~(⟨⟩,?_))))))));show !(!?_);clear cp bP u n12 x12;show !?_;clear jp hjp H13 aA x13;show C _ _ (_,.pick (.same (.nm a) (.nm b)) (.pair ql qr),by rw[<-line];rfl,n12.trans aA,(jp,_,!(x13,(cp,rfl,aA _ _ x12),rN.same (B.trans (n12.trans aA)))),rfl,rQ (.inr (rfl,rfl)),mk (.inr (rfl,rfl)))
 rintro σ u ⟨qv,q',rfl,uP,rR,eh,er,rS⟩;show !(!(!(!?_)));clear sp Z H13 aA x13;have mj:=B.trans (uP.trans aA);show fin _ q' _ (uL.trans mj) (sp,qv,hp,np,fs,rfl,x13,rR.same aA,by rw[eh];show mj _ _ mf,(rc.same aY).same (uP.trans aA),by rw[fe,er]) rS
noncomputable def z2k(hs:List Str)(n:Str):List Str:=if n="tuvtuvtuvw" then z2U else if n="tuvtuvtuvx" then(["e"]:List Str)else hs
noncomputable def z3V(r0 r1 r2 r3:List (List Int))(n:Str):List (List Int):=if n="t" then r0 else if n="tuvtuvtuvw" then r1 else if n="tuvtuvtuvx" then r2 else r3
theorem tabs_ok{m:Nat}{r0 r1 r2 r3:List (List Int)}(b:2<=m)(e:m<=12)(l0:∀r∈r0,r.length=(je.take m).length)(l1:∀r∈r1,r.length=2)(l2:∀r∈r2,r.length=1)(a:∀r∈r3,r.length=(je.take m).length)(d:r0.length<=60)(c1:r1.length<=10)(c:r2.length<=10)(f:r3.length=3):
  TabOk (z2k (je.take m)) (z3V r0 r1 r2 r3) where
 t:=(m,b,e,by unfold z2k;rw[wW (),wW ()])
 w:=by unfold z2k;rw[qd rfl]
 x:=by unfold z2k;rw[wW (),qd rfl]
 z:=by unfold z2k;rw[wW (),wW (),wW (),wW ()]
 rl:=λn hn=>by
  simp only[tabs,wL,qA,QQ]at hn;rcases hn with rfl|rfl|rfl|rfl
  .unfold z2k z3V;rw[qd rfl,wW (),wW ()];show l0
  .unfold z2k z3V;rw[wW (),qd rfl,qd rfl];show l1
  .unfold z2k z3V;rw[wW (),wW (),qd rfl,wW (),qd rfl];show l2
  .unfold z2k z3V;rw[wW (),wW (),wW (),wW (),wW ()];show a
 ct:=by unfold z3V;rw[qd rfl];show d
 cw:=by unfold z3V;rw[wW (),qd rfl];show c1
 cx:=by unfold z3V;rw[wW (),wW (),qd rfl];show c
 cz:=by unfold z3V;rw[wW (),wW (),wW ()];show f
inductive FourAt (th:Str->List Str) (tr:Str->List (List Int)) (H:Hp) (p:Addr):Prop
 | mk:∀v0 v1 v2 v3,H p=some (.lst [v0,v1,v2,v3])->TabAt th tr H v0 "t"->TabAt th tr H v1 "tuvtuvtuvw"->TabAt th tr H v2 "tuvtuvtuvx"->TabAt th tr H v3 "tuvz"->FourAt th tr H p
theorem FourAt.same(h:FourAt th tr H p)(e:zw H H'):FourAt th tr H' p:=by
 obtain⟨v0,v1,v2,v3,h0,a,b,c,d⟩:=h;show(v0,v1,v2,v3,e _ _ h0,a.same e,b.same e,c.same e,d.same e)
inductive spStocked (K:W.Frag) (vs:List V) (H:Hp) (Q:VK) (E:XK):Prop
 | mk:∀cp (ns:List Int) more,vs= [.ref cp,.int more]->SqL K H cp (ns.map V.int)->ns.length<=18->0<=more->more<=48->(∀(p:Addr) (th:Str->List Str) (tr:Str->List (List Int)) (H':Hp),zw H H'->TabOk th tr->FourAt th tr H' p->Q (.ref p) H')->spStocked K vs H Q E
def z8N{t:TT}{Q:Bool->Hp->Prop}(els:Q false H)(h:Q false H->t σ H Q):t σ H Q:=h els
noncomputable def twM(t:Nat):Nat:=if t=0 then 1 else if t=1 then 2 else 4
structure Gr(th:Str->List Str)(tr:Str->List (List Int))(i used twice:Nat)(q:Qn):Prop where
 ok:okQ th q
 rows:(rowsOf th tr q).length<=60
 line:(zy q).length<=2400*(i+1)*twM twice
 heads:∀x∈ze th q,x∈z0q i used
 dp:depth q<=5+2*i
 sub:kM th tr q
 lv:zu q<=used*twM twice
 top:∀n,q= .table n->n="t":=by intro n e;cases e
theorem z44{l:List α}{x:α}(h:x∈l.take i)(a:i<=j):x∈l.take j:=by
 have:l.take i=(l.take j).take i:=by rw[List.take_take,Nat.min_eq_left a]
 rw[this]at h;show QG h
theorem ju{x:Str}{u v:Nat}(h:x∈z0q i u)(a:i<=j)(b:u<=v):x∈z0q j v:=by
 unfold z0q at h ⊢;simp only[wE,qx]at h ⊢;rcases h with(((h|h)|h)|⟨s,h,e⟩)|⟨s,h,e⟩
 .exact .inl (.inl (.inl (.inl h)))
 .refine .inl (.inl (.inl (.inr ?_)));split at h
  .rw [qd ∅];show h
  .cases h
 .refine .inl (.inl (.inr ?_));split at h
  .rw [qd ∅];show h
  .cases h
 .exact .inl (.inr (s,z44 h a,e))
 .exact .inr (s,z44 h a,e)
theorem zfF:∀x∈z2U,x∉z0q 26 1:=by decide
theorem zfA:∀x∈(["e"]:List Str),x∉z0q 26 2:=by decide
theorem zah:∀i:Fin 26,(("n":Str)++signs.getD i.1 "":Str)∉z0q i.1 3/\(("s":Str)++signs.getD i.1 "":Str)∉z0q i.1 3:=by decide
theorem z4E:(z0q 26 3).length<=100:=by decide
theorem wIn:∀x∈z2U,x∈z0q 0 2:=by decide
theorem eIn:∀x∈(["e"]:List Str),x∈z0q 0 3:=by decide
theorem lIn:∀x∈je,x∈z0q 0 1:=by decide
noncomputable def zcG:Str:="abcdefghijklmnopqrstuvwxyz"
theorem zeb:∀i:Fin 26,(zcG.cps.toList[i.1]?).map (λc=>(⟨#[c]⟩:Str))=some (signs.getD i.1 ""):=by decide
theorem zcO:zcG.length<=sizeLine:=jb ()
theorem zej(h:i<26):∃c,atI zcG.cps.toList (0+(i:Int))=some c/\(⟨#[c]⟩:Str)=signs.getD i "":=by
 have:=zeb (i,h);cases e:zcG.cps.toList[i]? with
 | none=>rw[e]at this;cases this
 | some c=>
  rw[e]at this;show(c,?_,Option.some.inj this);rw[w0q];show zR e
theorem z3T(h:i<26):signs.getD i ""∈signs:=by
 rw[wn,we (by change i<26;show h)];show wz _
theorem z6b(h:i<26):signs.getD i ""∈signs.take (i+1):=by
 have hl:i<signs.length:=h;rw[wn,we hl,wR,we hl];show wC _ (ww.mpr rfl)
section
variable{used twice:Nat}
theorem yW(t:Nat):1<=twM t/\twM t<=4:=by unfold twM;split<;>(try split)<;>lia
theorem kY{a b m:Nat}(h:a<=2400*(i+1)*m)(hm:1<=m)(c:b<=a+2400):b<=2400*(i+1+1)*m:=by
 have:2400*(i+1+1)*m=2400*(i+1)*m+2400*m:=by rw[QH 2400 (i+1) 1,w07,w26]
 lia
theorem Gr.big(g:Gr th tr i used twice q)(hi:i<=24):(zy q).length<=240000:=by
 have h:=g.line;have m:=(yW twice).2;have:2400*(i+1)*twM twice<=2400*25*4:=w0L (QR _ ∅) m
 lia
def Gr.wide(T:TabOk th tr)(g:Gr th tr i used twice q)(hi:i<=26)(b:used<=3):(ze th q).length<=100:=
 wY (kf (jz T g.ok).2 λx a=>ju (g.heads x a) hi b) z4E
theorem Gr.pick(T:TabOk th tr)(g:Gr th tr i used twice q)(a:jA (ze th q) c)(sz:c.size<=6):Gr th tr (i+1) used twice (.pick c q) where
 ok:=(a,sz,g.ok)
 rows:=wY (qz _ _) g.rows
 line:=kY g.line (yW _).1 (by have:=z5c (ja T g.ok) a sz;lia)
 heads:=λx b=>ju (g.heads x b) ∅ (wA _)
 dp:=by have:=g.dp;change depth q+1<=_;lia
 sub:=g.sub
 lv:=g.lv
theorem Gr.cols(T:TabOk th tr)(g:Gr th tr i used twice q)(hi:i<=24)(b:used<=3)(ne:ns≠ [])(nd:ns.Nodup)(sub:∀n∈ns,n∈ze th q):Gr th tr (i+1) used twice (.cols ns q) where
 ok:=(ne,nd,sub,g.ok)
 rows:=by change(List.map _ _).length<=_;rw[w9];show g.rows
 line:=kY g.line (yW _).1 (by
  have c:=z4V λn hn=>ja T g.ok n (sub n hn)
  have wl:=g.wide T ∅ b;have d:=kf nd sub;simp only[zy]
  (walk_at "sl"))
 heads:=λx a=>ju (g.heads x (sub x a)) ∅ (wA _)
 dp:=by have:=g.dp;change depth q+1<=_;lia
 sub:=g.sub
 lv:=g.lv
theorem Gr.sort(T:TabOk th tr)(g:Gr th tr i used twice q)(m:n∈ze th q):Gr th tr (i+1) used twice (.sort n q) where
 ok:=(m,g.ok)
 rows:=by change(ke _ _).length<=_;rw[z3D];show g.rows
 line:=kY g.line (yW _).1 (by
  have:=ja T g.ok n m;simp only[zy]
  (walk_at "sl"))
 heads:=λx a=>ju (g.heads x a) ∅ (wA _)
 dp:=by have:=g.dp;change depth q+1<=_;lia
 sub:=g.sub
 lv:=g.lv
theorem Gr.first(g:Gr th tr i used twice q){n:Int}(m:n∈z0t):Gr th tr (i+1) used twice (.first n q) where
 ok:=(m,g.ok)
 rows:=by change(List.take _ _).length<=_;rw[wV];have:=g.rows;lia
 line:=kY g.line (yW _).1 (by
  have:=(z0h n m).1;simp only[zy]
  (walk_at "sl"))
 heads:=λx a=>ju (g.heads x a) ∅ (wA _)
 dp:=by have:=g.dp;change depth q+1<=_;lia
 sub:=g.sub
 lv:=g.lv
theorem Gr.firsts(g:Gr th tr i used twice q){n a:Int}(m:n∈z0t)(b:a∈z0t):Gr th tr (i+1) used twice (.first a (.first n q)) where
 ok:=(b,m,g.ok)
 rows:=by change(List.take _ (List.take _ _)).length<=_;rw[wV,wV];have:=g.rows;lia
 line:=kY g.line (yW _).1 (by
  have:=(z0h n m).1;have:=(z0h a b).1;simp only[zy]
  (walk_at "sl"))
 heads:=λx c=>ju (g.heads x c) ∅ (wA _)
 dp:=by have:=g.dp;change depth q+1+1<=_;lia
 sub:=g.sub
 lv:=g.lv
theorem Gr.group(T:TabOk th tr)(g:Gr th tr i used twice q)(hi:i<26)(h:used<=3){a b:Str}(c:a∈ze th q)(mb:b∈ze th q):Gr th tr (i+1) used twice (.group a b (("n":Str)++signs.getD i "") (("s":Str)++signs.getD i "") q) where
 ok:=by
  have ps:=zah (i,hi);have d:a∈z0q i 3:=ju (g.heads a c) (wA _) h;show(c,mb,(_,z3T hi,rfl,rfl),λz=>ps.1 (z ▸ d),λz=>ps.2 (z ▸ d),g.ok)
 rows:=by
  change((jK _ _).map _).length<=_
  rw[w9];show wY (z3M _) g.rows
 line:=kY g.line (yW _).1 (by
  have:=ja T g.ok a c;have:=ja T g.ok b mb;have:=z3j _ (z3T hi);simp only[zy]
  (walk_at "sl"))
 heads:=λx f=>by
  have e:x∈ [a,(("n":Str)++signs.getD i "":Str),(("s":Str)++signs.getD i "":Str)]:=f;simp only[wL,qA,QQ]at e;rcases e with rfl|rfl|rfl
  .exact ju (g.heads _ c) ∅ (wA _)
  .unfold z0q;show q5 _ (wC _ (qx.mpr (_,z6b hi,rfl)))
  .unfold z0q;show wC _ (qx.mpr (_,z6b hi,rfl))
 dp:=by have:=g.dp;change depth q+1<=_;lia
 sub:=g.sub
 lv:=g.lv
theorem z62{a b c m d:Nat}(h1:a<=2400*(i+1)*m)(f:b<=a+1000)(hc:c<=a+b+100)(hm:1<=m)(h2:d=2*m):c<=2400*(i+1+1)*d:=by
 have e:2400*(i+1+1)*d=2*(2400*(i+1)*m)+2*(2400*m):=by
  rw[h2,QH 2400 (i+1) 1,w07,w26,Nat.mul_left_comm (2400*(i+1)) 2 m,Nat.mul_left_comm 2400 2 m]
 lia
theorem Gr.both(T:TabOk th tr)(g:Gr th tr i used twice q)(ht:twice<2)(f:okQ th r)(b:ze th r=ze th q)(d:(zy r).length<=(zy q).length+1000)(c:(rowsOf th tr q).length+(rowsOf th tr r).length<=60)(j:depth r<=depth q+1)(h:kM th tr r)(rl:zu r<=zu q)(e:q'= .both q r\/q'= .both r q):Gr th tr (i+1) used (twice+1) q':=by
 have hm:twM (twice+1)=2*twM twice:=by
  have:twice=0\/twice=1:=by lia
  rcases this with rfl|rfl<;>rfl
 have l:=g.dp;have lv:∀{z:Qn},z= .both q r\/z= .both r q->zu z<=used*twM (twice+1):=λ{z} e=>by
  have:=g.lv;rw[hm,Nat.mul_left_comm];rcases e with rfl|rfl<;>simp only[zu]<;>lia
 rcases e with rfl|rfl
 .exact((b.symm,g.ok,f),by change(rowsOf th tr q++rowsOf th tr r).length<=_;rw[wm];show c,z62 g.line d (by simp only[zy];(walk_at "sl")) (yW _).1 hm,λx a=>ju (g.heads x a) ∅ (wA _),by change max _ _+1<=_;lia,(g.sub,h,c),lv (.inl rfl),λv=>nofun)
 .exact((b,f,g.ok),by change(rowsOf th tr r++rowsOf th tr q).length<=_;rw[wm,Nat.add_comm];show c,z62 g.line d (by simp only[zy];(walk_at "sl")) (yW _).1 hm,λx a=>ju (g.heads x (by rw[<-b];show a)) ∅ (wA _),by change max _ _+1<=_;lia,(h,g.sub,∅),lv (.inr rfl),λv=>nofun)
theorem Gr.unite(g:Gr th tr i used twice q)(u:Un2 th tr q n q')(hn:∀x∈th n,x∈z0q 0 (used+1))(hl:(rowsOf th tr q).length*(tr n).length<=30):Gr th tr (i+1) (used+1) twice q' where
 ok:=u.ok
 rows:=wY u.ln ∅
 line:=kY g.line (yW _).1 (by have:=u.li;lia)
 heads:=λx a=>by
  have h1:∀x∈ze th q,x∈z0q (i+1) (used+1):=λx a=>ju (g.heads x a) ∅ ∅
  have h2:∀x∈th n,x∈z0q (i+1) (used+1):=λx a=>ju (hn x a) ∅ (wA _)
  rcases u.hd with e|e
  .rw [e]at a;show(wE.mp a).elim (h1 x) (h2 x)
  .rw [e]at a;show(wE.mp a).elim (h2 x) (h1 x)
 dp:=by have:=u.dp;have:=g.dp;lia
 sub:=u.sub g.sub ∅
 lv:=by
  have:=g.lv;have:=(yW twice).1;rw[u.lv,w07,w1l]
  lia
 top:=λm e=>absurd e (u.nt m)
end
inductive spGrown (K:W.Frag) (vs:List V) (H:Hp) (Q:VK) (E:XK):Prop
 | mk:∀cp tp (ns:List Int) th tr,vs= [.ref cp,.ref tp]->SqL K H cp (ns.map V.int)->ns.length<=24->TabOk th tr->FourAt th tr H tp->(∀(v':V) (q:Qn) (used twice:Nat) (H':Hp),zw H H'->StAt th tr H' v' q->Gr th tr ns.length used twice q->used<=3->twice<=2->Q v' H')->spGrown K vs H Q E
inductive GrI (th:Str->List Str) (tr:Str->List (List Int)) (H:Hp) (cp tp:Addr) (i:Nat) (σ:St) (H':Hp):Prop
 | mk:∀(v:V) (q:Qn) (used twice:Nat) (o5 o6 o7:Option V),σ= [some (.ref cp),some (.ref tp),some v,some (.int (used:Int)),some (.int (twice:Int)),o5,o6,o7]->zw H H'->StAt th tr H' v q->Gr th tr i used twice q->1<=used->used<=3->twice<=2->GrI th tr H cp tp i σ H'
theorem zL:FnScope ["_law_cells","_law_tables","_law_state","_law_used","_law_twice","_law_k","_law_seed","_law_turn"] ["_law_cells","_law_tables"] (zi z1F):=by done
theorem z5z(F:Fun K "_law_grown" "_law_grown" z1F f fd)(T:Txt K mg)(s:Kn P w K mg base 8 "_law_picked" ["_law_state","_law_seed"] (spPicked K))(l:Kn P w K mg base 1 "_law_columns" ["_law_state","_law_seed"] (spColumns K))(y:Kn P w K mg base 2 "_law_united" ["_law_state","_law_table","_law_seed"] (spUnited K))
  (u:Kn P w K mg base 1 "_law_beside" ["_law_state","_law_table","_law_seed"] (spBeside K)) (j:Kn P w K mg base 9 "_law_doubled" ["_law_state","_law_seed"] (spDoubled K)) (z:Kn P w K mg base 1 "_law_headed" ["_law_state","_law_seed"] (spHeaded K)) (o:Kn P w K mg base 1 "_law_counted" ["_law_state","_law_seed","_law_sign"] (spCounted K)) (B:Kn P w K mg base 1 "_law_sorted" ["_law_state","_law_seed"] (spSorted K)):
  FnOk P w K mg base CX0 10 f fd ["_law_cells","_law_tables"] (spGrown K):=by
 clear zL vs H Q E h F;obtain⟨cp,tp,ns,th,tr,rfl,hS,hn,TT,h4,fin⟩:=h;have fH:(ns.map V.int).length=ns.length:=w9 _;intro aa A outer sh hr;have hu:=z1P hr;show(_,(zc (seT 2 zL (zD (zQ (zD (zr zn (zr zn zb))) (zr zn (zl (ixT (ixL v1 zd) zd) (zl (ixT (ixL v1 zd) zd) zb))))))
  (zc (seT 3 zL zd)
  (zc (seT 4 zL zd)
  (zc (foR (jU rfl T.range (zK (leN T.len (za v0 zb)) zb)) (gnM 5 zL)
   (zc (seT 6 zL (zo yw (zo jZ (ixL v0 v5) zd) v5))
   (zc (seT 7 zL (zo zW (zo yw (ixL v0 v5) (zo z5i zd v5)) zd))
   (zf (zB (cmT z6h (pv 7) zd)
    (zf (seT 2 zL (zS s hr.m (za v2 (za (pv 6) zb)))))
    (zf (zB (cmT zO (pv 7) zd)
     (zf (seT 2 zL (zS l hr.m (za v2 (za (pv 6) zb)))))
     (zf (zB (PW.pt (z1L (cmT zO (pv 7) zd) (z1L (cmT z6h v3 zd) (z1E (cmT zeB (zo z5i (leN T.len (zl (ixT v2 zd) zb)) (leN T.len (zl (ixT (ixL v1 v3) zd) zb))) zd)))))
      (zc (seT 2 zL (zS y hr.m (za v2 (zl (ixL v1 v3) (za (pv 6) zb)))))
      (zf (seT 3 zL (zo yw v3 zd))))
      (zf (zB (PW.pt (z1L (cmT zO (pv 7) zd) (z1L (cmT z6h v4 zd) (z1E (cmT zeB (leN T.len (zl (ixT v2 zd) zb)) (zo z19 zd (zo z5i zd v4)))))))
       (zc (zB (z3n (cmT (zaj hu) (ixT v2 zd) (ixT (ixL v1 zd) zd)) (cmT zO (zo zW (pv 6) zd) zd))
        (zf (seT 2 zL (zS u hr.m (za v2 (zl (ixL v1 zd) (za (pv 6) zb))))))
        (zf (seT 2 zL (zS j hr.m (za v2 (za (pv 6) zb))))))
       (zf (seT 4 zL (zo yw v4 zd))))
       (zf (zB (cmT zO (pv 7) zd)
        (zf (seT 2 zL (zS z hr.m (za v2 (za (pv 6) zb)))))
        (zf (zB (cmT zO (pv 7) zd)
         (zf (seT 2 zL (zS o hr.m (za v2 (za (pv 6) (zl (yz zfH zn v5 (λk k=>rfl)) zb))))))
         (zf (seT 2 zL (zS B hr.m (za v2 (za (pv 6) zb))))))))))))))))))))
  (zf (zp v2)))))),?_)
 generalize hK0:K=K1
 revert K1
 show jd #[] ?_;obtain⟨v0,v1,v2,v3,f0,t0,t1,t2,t3⟩:=id h4;obtain⟨p0,fW,rm,Ay,rfl,a1,a3,a4,a5⟩:=t0;clear qp dG H1 n1 x1;show !(zv (n1 _ _ f0) zH (zg (n1 _ _ a1) j8 (!(zv (n1 _ _ f0) zH (zg (n1 _ _ a1) jF ?_)))));clear sp aq H2 n2 x2;have s2:=n1.trans n2;have b9:StAt th tr H2 (.ref sp) (.table "t"):=(sp,_,fW,rm,Ay,rfl,x2,(qp,rfl,n2 _ _ x1),s2 _ _ a3,a4.same s2,a5);have tt:("t":Str)∈tabs:=qy;have g2:Gr th tr 0 1 0 (.table "t"):=by
  show(tt,TT.ct,?_,λx N=>?_,(),TT.ct,by change 1<=1*1;decide,λn e=>by cases e;rfl)
  .have:(zy (.table "t")).length<=10:=by decide
   have:twM 0=1:=rfl
   lia
  .obtain⟨m,_,_,e⟩:=TT.t;have cf:x∈th "t":=N;rw[e]at cf;show lIn x (QG cf)
 show !(cp,!(.inl (s2.seq hS),!(∅,by rw[fH];lia,z54 (lo:=0) (n:=(ns.map V.int).length) (GrI th tr H cp tp)
  (_,_,1,0,none,none,none,rfl,s2,b9,g2,(),(),()) ?_ ?_)))
 .rintro i σ H3 D L _ hi ⟨v,q,used,twice,o5,o6,o7,rfl,C,J,d,M,I,w2⟩;rw[fH]at hi;have ml:i<=24:=by lia
  have aL:atI (ns.map V.int) (0+(i:Int))=some (.int (ns.getD i 0)):=by
   rw[w0q];show zR (int_at hi)
  generalize ns.getD i 0=c at aL
  have uQ:=C.seq hS;have big:=d.big ml;have rows:=d.rows;have wide:=d.wide TT ∅ I;show !(!(cp,_,_,!(rfl,uQ,aL,_,!(rfl,((),()),!(_,!(rfl,?_))))));show !(!(cp,_,_,!(rfl,uQ,aL,!(_,!(rfl,.inl ((),()),_,!(rfl,_,!(rfl,(by change(0:Int)<9;decide),?_)))))));show !(_,!(rfl,!?_));show k7 (λb0=>?_) (λb0=>?_)
  .refine !(!(th,tr,q,v,_,rfl,TT,J,d.ok,∅,∅,λv' c' H' s' G Z sz=>?_));show L _ _ (v',_,used,twice,_,_,_,rfl,C.trans s',G,d.pick TT Z sz,M,I,w2)
  show !(rfl,!?_);show k7 (λb1=>?_) (λb1=>?_)
  .refine !(!(th,tr,q,v,_,rfl,TT,J,d.ok,∅,∅,∅,λv' Az H' s' G ne nd sub=>?_));show L _ _ (v',_,used,twice,_,_,_,rfl,C.trans s',G,d.cols TT ml I ne nd sub,M,I,w2)
  show z8N (z9a ?els) (λels=> ?main)
  case main=>
   show !(rfl,!?_);show k7 (λb2=>?_) (λb2=>els);show !(_,!(rfl,!?_));show k7 (λO=>?_) (λO=>els);have AA:(used:Int)<3:=qD O;obtain⟨p,qv,hp,rp,rs,rfl,h1,h2,h3,mq,Y⟩:=id J;have rT:rs.length<=60:=by rw[<-Y,w9]at rows;show rows
   obtain⟨tv,n,uR,ht,mn,AB,aV,F4⟩:∃(tv:V) (n:Str),atI [V.ref p0,v1,v2,v3] (used:Int)=some tv/\TabAt th tr H3 tv n/\n∈tabs/\(∀x∈ze th q,x∉th n)/\(∀x∈th n,x∈z0q 0 (used+1))/\(tr n).length<=10:=by
    have:used=1\/used=2:=by lia
    rcases this with rfl|rfl
    .refine(v1,_,j8,t1.same C,by simp[tabs],λx N R=>?_,?_,TT.cw)
     .rw [TT.w]at R;show zfF x R (ju (d.heads x N) ∅ (wA _))
     .rw [TT.w];show wIn
    .refine(v2,_,jF,t2.same C,by simp[tabs],λx N R=>?_,?_,TT.cx)
     .rw [TT.x]at R;show zfA x R (ju (d.heads x N) ∅ (wA _))
     .rw [TT.x];show eIn
   obtain⟨rV,o0,lV,ts,rfl,c1,c3,c4,c5⟩:=id ht;have AC:ts.length=(tr n).length:=by rw[<-c5,w9]
   have U:=C _ _ f0;show !(zg h1 z1c (rp,!(.inl (SqL.of mq.1),!(!(zv U uR (zg c1 jF (lV,!(.inl (SqL.of c4.1),_,!(rfl,.inl (by rw[w9];lia,by rw[w9];lia),_,!(rfl,!?_))))))))));show k7 (λS=>?_) (λS=>els);have X:=qD S;rw[w9,w9,AC]at X;have b5:(rowsOf th tr q).length*(tr n).length<=30:=by
    rw[<-Y,w9]
    exact_mod_cast X
   have AD:(th n).length<=1000:=by
    have:used=1\/used=2:=by lia
    have:=kf (TT.hd n mn).2 λx N=>ju (aV x N) (qU 26) (show used+1<=3 by lia)
    have:=z4E
    lia
   show !(!(!(zv U uR (!(th,tr,q,n,_,_,_,rfl,TT,J,d.ok,ht,mn,AB,∅,∅,∅,∅,AD,λv' q' H' s' G un=>?_)))));show !(_,!(rfl,?_));show L _ _ (v',q',used+1,twice,_,_,_,rfl,C.trans s',G,d.unite un aV b5,∅,∅,w2)
  case els=>
   show z8N (z9a ?els2) (λels=> ?main2)
   case main2=>
    show !(rfl,!?_);show k7 (λb2=>?_) (λb2=>els);show !(_,!(rfl,!?_));show k7 (λO=>?_) (λO=>els);have AA:(twice:Int)<2:=qD O;have tw2:twice<2:=by lia
    obtain⟨p,qv,hp,rp,rs,rfl,h1,h2,h3,mq,Y⟩:=id J;show !(zg h1 z1c (rp,!(.inl (SqL.of mq.1),!(_,!(rfl,.inl ((),()),_,!(rfl,_,!(rfl,!?_)))))));show k7 (λS=>?_) (λS=>els);have X:=qD S;rw[w9]at X;have b5:(rowsOf th tr q).length<=15:=by rw[<-Y,w9];lia
    have U:=C _ _ f0;obtain⟨p3,dJ,uq,F5,rfl,d1,d3,d4,d5⟩:=id (t3.same C);show !(zg h1 jF (!(zv U z1c (zg d1 j8 (hp,dJ,_,!(rfl,SqL.of h3,SqL.of d3,zV _,zV _,!(_,(!(_,!(rfl,(by change(0:Int)<3;decide),rfl,!(rfl,rfl)))),?_)))))));rw[z7X];show k7 (λb6=>?_) (λb6=>?_)
    .rw [Qb]at b6;have eh:ze th q=th "tuvz":=qD b6.1;show !(!(zv U z1c (!(th,tr,q,"tuvz",_,_,_,rfl,J,t3.same C,eh,(),∅,∅,by rw[TT.cz];decide,λv' q' H' s' G e'=>?_))));show !(_,!(rfl,?_));have mz:("tuvz":Str)∈tabs:=by simp[tabs]
     have lz:(zy (.table "tuvz")).length<=(zy q).length+1000:=wY (show(zy (.table "tuvz")).length<=10 by decide) ∅;have rz:(rowsOf th tr q).length+(rowsOf th tr (.table "tuvz")).length<=60:=by
      change _+(tr "tuvz").length<=60
      rw[TT.cz];lia
     show L _ _ (v',q',used,twice+1,_,_,_,rfl,C.trans s',G,d.both TT tw2 (r:= .table "tuvz") mz eh.symm lz rz (by change 1<=_;lia) (z9j TT _ mz) (yn q) e',M,I,∅)
    .refine !(!(th,tr,q,_,_,rfl,TT,J,d.ok,∅,∅,λv' q' c' H' s' G Z sz e'=>?_));show !(_,!(rfl,?_));have gp:=d.pick TT Z sz;have rz:(rowsOf th tr q).length+(rowsOf th tr (.pick c' q)).length<=60:=by
      have:(rowsOf th tr (.pick c' q)).length<=(rowsOf th tr q).length:=qz _ _
      lia
     show L _ _ (v',q',used,twice+1,_,_,_,rfl,C.trans s',G,d.both TT tw2 (r:= .pick c' q) gp.ok rfl (z5c (ja TT d.ok) Z sz) rz (by change depth q+1<=_;lia) d.sub (wA _) e',M,I,∅)
   case els2=>
    show !(rfl,!?_);show k7 (λb2=>?_) (λb2=>?_)
    .refine !(!(th,tr,q,v,_,rfl,J,∅,λv' q' H' s' G aK=>?_));obtain⟨m,mm,rfl|⟨m',fG,rfl⟩⟩:=aK
     .exact L _ _ (v',_,used,twice,_,_,_,rfl,C.trans s',G,d.first mm,M,I,w2)
     .exact L _ _ (v',_,used,twice,_,_,_,rfl,C.trans s',G,d.firsts mm fG,M,I,w2)
    show !(rfl,!?_);show k7 (λO=>?_) (λO=>?_)
    .obtain⟨ch,ec,es⟩:=zej (i:=i) ∅;have l1:=(z3j _ (z3T (i:=i) ∅)).2.2;show !(!(!(zcG,_,!(rfl,zcO,ec,th,tr,q,v,_,_,rfl,TT,J,d.ok,by rw[es];show l1,∅,∅,λv' a b H' s' G ma mb=>?_))));rw[es]at G;show L _ _ (v',_,used,twice,_,_,_,rfl,C.trans s',G,d.group TT ∅ I ma mb,M,I,w2)
    .refine !(!(th,tr,q,v,_,rfl,TT,J,d.ok,∅,∅,λv' n' H' s' G mn=>?_));show L _ _ (v',_,used,twice,_,_,_,rfl,C.trans s',G,d.sort TT mn,M,I,w2)
 .rintro σ H3 ⟨v,q,used,twice,o5,o6,o7,rfl,C,J,d,M,I,w2⟩;rw[fH]at d;show !(fin v q used twice H3 C J d I w2)
theorem ints_snoc{zs:List Int}(h:zs.length=j):∃a:List Int,zs.map V.int++[V.int z]=a.map V.int/\a.length=j+1:=
 (zs++[z],by rw[wF];rfl,by rw[wm,h];rfl)
theorem zed{ns:List Int}(h:0<ns.length):atI (ns.map V.int) (-1)=some (.int (ns.getD (ns.length-1) 0)):=by
 have e:=int_at (xs:=ns) (i:=ns.length-1) ∅;have h2:ixN (ns.map V.int).length (-1)=some (ns.length-1):=by
  unfold ixN;rw[wW (),qd (by rw[w9];lia),w9]
  congr 1
  lia
 unfold atI;rw[h2];show e
structure Stk(H H':Hp)(rp r0 r1 r2:Addr)(a b c:List (Addr×List Int))(hl:Nat):Prop where
 same:zw H H'
 top:H' rp=some (.lst [.ref r0,.ref r1,.ref r2])
 h0:RowsAt H' r0 a
 h1:RowsAt H' r1 b
 h2:RowsAt H' r2 c
 f0:H r0=none
 f1:H r1=none
 f2:H r2=none
 n01:r0≠r1
 n02:r0≠r2
 n12:r1≠r2
 np0:rp≠r0
 np1:rp≠r1
 np2:rp≠r2
 a0:∀r∈a,r.1≠r0/\r.1≠r1/\r.1≠r2
 a1:∀r∈b,r.1≠r0/\r.1≠r1/\r.1≠r2
 a2:∀r∈c,r.1≠r0/\r.1≠r1/\r.1≠r2
 w0:∀r∈a,r.2.length=hl
 w1:∀r∈b,r.2.length=2
 w2:∀r∈c,r.2.length=1
def Stk.new{b c:List (Addr×List Int)}(s:Stk H H' rp r0 r1 r2 a b c hl)(e:zw H' H1):Stk H H1 rp r0 r1 r2 a b c hl:=
 {s with same:=s.same.trans e,top:=e _ _ s.top,h0:=s.h0.same e,h1:=s.h1.same e,h2:=s.h2.same e}
def Stk.fresh{q:Addr}{b c:List (Addr×List Int)}(s:Stk H H' rp r0 r1 r2 a b c hl)(h:H' q=none):q≠r0/\q≠r1/\q≠r2:=
 ((zq s.h0.1 h).symm,(zq s.h1.1 h).symm,(zq s.h2.1 h).symm)
theorem Stk.push0{q:Addr}{b c:List (Addr×List Int)}(s:Stk H H' rp r0 r1 r2 a b c hl)(hq:H' q=some (.lst (x.map V.int)))(d:q≠r0/\q≠r1/\q≠r2)(e:x.length=hl):
  Stk H (upd H' r0 (.lst (refs a++[V.ref q]))) rp r0 r1 r2 (a++[(q,x)]) b c hl where
 same:=s.same.put s.f0
 top:=by rw[zj s.np0];show s.top
 h0:=s.h0.push d.1 hq
 h1:=s.h1.kp z2V s.n01.symm λr m=>(s.a1 r m).1
 h2:=s.h2.kp z2V s.n02.symm λr m=>(s.a2 r m).1
 f0:=s.f0
 f1:=s.f1
 f2:=s.f2
 n01:=s.n01
 n02:=s.n02
 n12:=s.n12
 np0:=s.np0
 np1:=s.np1
 np2:=s.np2
 a0:=λr m=>(wE.mp m).elim (s.a0 r) λm=>by rw[ww.mp m];show d
 a1:=s.a1
 a2:=s.a2
 w0:=λr m=>(wE.mp m).elim (s.w0 r) λm=>by rw[ww.mp m];show e
 w1:=s.w1
 w2:=s.w2
theorem Stk.push1{q:Addr}{b c:List (Addr×List Int)}(s:Stk H H' rp r0 r1 r2 a b c hl)(hq:H' q=some (.lst (x.map V.int)))(d:q≠r0/\q≠r1/\q≠r2)(e:x.length=2):
  Stk H (upd H' r1 (.lst (refs b++[V.ref q]))) rp r0 r1 r2 a (b++[(q,x)]) c hl where
 same:=s.same.put s.f1
 top:=by rw[zj s.np1];show s.top
 h0:=s.h0.kp z2V s.n01 λr m=>(s.a0 r m).2.1
 h1:=s.h1.push d.2.1 hq
 h2:=s.h2.kp z2V s.n12.symm λr m=>(s.a2 r m).2.1
 f0:=s.f0
 f1:=s.f1
 f2:=s.f2
 n01:=s.n01
 n02:=s.n02
 n12:=s.n12
 np0:=s.np0
 np1:=s.np1
 np2:=s.np2
 a0:=s.a0
 a1:=λr m=>(wE.mp m).elim (s.a1 r) λm=>by rw[ww.mp m];show d
 a2:=s.a2
 w0:=s.w0
 w1:=λr m=>(wE.mp m).elim (s.w1 r) λm=>by rw[ww.mp m];show e
 w2:=s.w2
theorem Stk.push2{q:Addr}{b c:List (Addr×List Int)}(s:Stk H H' rp r0 r1 r2 a b c hl)(hq:H' q=some (.lst (x.map V.int)))(d:q≠r0/\q≠r1/\q≠r2)(e:x.length=1):
  Stk H (upd H' r2 (.lst (refs c++[V.ref q]))) rp r0 r1 r2 a b (c++[(q,x)]) hl where
 same:=s.same.put s.f2
 top:=by rw[zj s.np2];show s.top
 h0:=s.h0.kp z2V s.n02 λr m=>(s.a0 r m).2.2
 h1:=s.h1.kp z2V s.n12 λr m=>(s.a1 r m).2.2
 h2:=s.h2.push d.2.2 hq
 f0:=s.f0
 f1:=s.f1
 f2:=s.f2
 n01:=s.n01
 n02:=s.n02
 n12:=s.n12
 np0:=s.np0
 np1:=s.np1
 np2:=s.np2
 a0:=s.a0
 a1:=s.a1
 a2:=λr m=>(wE.mp m).elim (s.a2 r) λm=>by rw[ww.mp m];show d
 w0:=s.w0
 w1:=s.w1
 w2:=λr m=>(wE.mp m).elim (s.w2 r) λm=>by rw[ww.mp m];show e
inductive StkI (H:Hp) (cp:Addr) (more:Int) (rp hp r0 r1 r2:Addr) (m:Nat) (i:Nat) (σ:St) (H':Hp):Prop
 | mk:∀(a b c:List (Addr×List Int)) (o4 o5 o6 o7 o8 o9:Option V),σ= [some (.ref cp),some (.int more),some (.ref rp),some (.ref hp),o4,o5,o6,o7,o8,o9,none]->Stk H H' rp r0 r1 r2 a b c m->H' hp=some (.lst ((je.take m).map V.str))->a.length=(i+2)/3->b.length=(i+1)/3->c.length=i/3->StkI H cp more rp hp r0 r1 r2 m i σ H'
theorem zJ:FnScope ["_law_cells","_law_more","_law_rows","_law_heads","_law_k","_law_cell","_law_one","_law_other","_law_rest","_law_first","_law_made"] ["_law_cells","_law_more"] (zi jL):=by done
theorem z4g(F:Fun K "_law_stocked" "_law_stocked" jL f fd)(T:Txt K mg):FnOk P w K mg base CX0 1 f fd ["_law_cells","_law_more"] (spStocked K):=by
 clear zJ vs H Q E h F;obtain⟨cp,ns,more,rfl,B,hn,rW,F6,fin⟩:=h;have fH:(ns.map V.int).length=ns.length:=w9 _;have z0:0<=sizeLine:=by decide
 intro aa A outer sh hr;show(_,(zc (seT 2 zJ (zC (jH (zC zb) (jH (zC zb) (jH (zC zb) zb)))))
  (zc (yN (i:=3) zJ.nd rfl (QV rfl) (zC (zr zn (zr zn (zr zn (zr zn (zr zn (zr zn (zr zn (zr zn (zr zn (zr zn (zr zn (zr zn zb))))))))))))))
  (zc (yN (i:=3) zJ.nd rfl (QV rfl) (jt yI v3 jW (jI (ixL (zC (yq (zo yw zd (zo zW (zF (z1X rfl) rfl T.sum w0I (zl (jt yI v0 jW (jI zd)) zb)) zd)) (zr zd zb))) (jj z5S rfl T.int w1k (z9v (cmE zO (zo zW (zF (z1X rfl) rfl T.sum w0I (zl (jt yI v0 jW (jI zd)) zb)) zd) zd) zb))))))
  (zc (foR (jU rfl T.range (zK (zF (zba rfl) rfl T.max PyProof.Rows.boot_max (zr zd (zK (leN T.len (za v0 zb)) zb))) zb)) (z0D (i:=4) zJ.nd rfl (QV rfl))
   (zc (yN (i:=5) zJ.nd rfl (QV rfl) (zo yw (zo z5i zd v4) zd))
   (zc (kX (cmT z6h v4 (leN T.len (za v0 zb)))
    (zf (yN (i:=5) zJ.nd rfl (QV rfl) (ixL v0 v4)))
    zt)
   (zc (seT 6 zJ (zo z19 (zo zW v5 zd) zd))
   (zc (seT 7 zJ (zo z19 (zo zW (zo yw (zo jZ v5 zd) v4) zd) zd))
   (zc (kX (cmT zO (zo zW v5 zd) zd)
    (zf (seT 7 zJ (zo yw (pv 7) (z4t ((),(),())))))
    zt)
   (zc (y0 (j:=8) rfl zJ.nd rfl (w0g rfl) (CompSc.of (sx:=zi jL) (NX:= ["_law_cells","_law_more","_law_rows","_law_heads","_law_k","_law_cell","_law_one","_law_other","_law_rest","_law_first","_law_made"]) (fr:= ["_law_cell","_law_k"]) (ix:= [5,4]) rfl rfl ()) (zao rfl T.range (zr zd (zK (leN T.len (za v3 zb)) zb))) (λv v v v v v=>jh) (λv v v v v v=>(zo zW (zo yw (zo yw (zo jZ v1 zd) v2) v0) zd)))
   (zc (seT 9 zJ (zo kF (zC (za (pv 6) (za (pv 7) zb))) (pv 8)))
   (zf (j7 (apP (ixL v2 (zo zW v4 zd)) (zl (ixL (zC (za (pv 9) (jH (zC (za (pv 7) (za (pv 6) zb))) (jH (zC (za (pv 6) zb)) zb)))) (zo zW v4 zd)) zb))))))))))))
  (zc (kX (cmT zO (zo zW (zF (z1X rfl) rfl T.sum w0I (zl (jt yI v0 (jI (z69 z3U zd)) jW) zb)) zd) zd)
   (zf (foR (jU rfl T.range (za v1 zb)) (z0D (i:=4) zJ.nd rfl (QV rfl))
    (zf (j7 (apP (ixL v2 zd) (z0w (jB rfl (CompSc.of (sx:=zi jL) (NX:= ["_law_cells","_law_more","_law_rows","_law_heads","_law_k","_law_cell","_law_one","_law_other","_law_rest","_law_first","_law_made"]) (fr:= ["_law_k"]) (ix:= [4]) rfl rfl ()) (jU rfl T.range (zK (leN T.len (za v3 zb)) zb)) (λv v v v v v=>jh) (λv v v v v v=>(zo z19 (zo zW (zo yw v1 v0) zd) zd))) zb))))))
   zt)
  (zc (kX (PW.pt (z1L (cmT z5Q (leN T.len (za v0 zb)) zd) (z1E (cmT zO (zo zW (ixL v0 zd) zd) zd))))
   (zf (z6x (zC zb) (z8G v2 (zo zW (ixL v0 (z69 z3U zd)) zd) set_list)))
   zt)
  (zc (seT 10 zJ (zC (zQ (zD (zr zn (za v3 (zl (ixL v2 zd) zb)))) (zQ (zD (zr zn (jH (zC (zr zn (zr zn zb))) (zl (ixL v2 zd) zb)))) zb))))
  (zc (y0 (j:=7) rfl zJ.nd rfl (w0g rfl) (CompSc.of (sx:=zi jL) (NX:= ["_law_cells","_law_more","_law_rows","_law_heads","_law_k","_law_cell","_law_one","_law_other","_law_rest","_law_first","_law_made"]) (fr:= ["_law_heads"]) (ix:= [3]) rfl rfl ()) (jU rfl T.range (zr zd zb)) (λv v v v v v=>jh) (λv v v v v v=>(jB rfl (CompSc.of2 (sx:=zi jL) (NX:= ["_law_m","_law_heads"]) (fr:= ["_law_m"]) (ix:= [0]) rfl rfl ()) (jU rfl T.range (zK (zF (z5j (K:=K) rfl) rfl T.len PySem.boot_len (za v1 zb)) zb)) (λv v v v v v=>jh) (λv v v v v v=>(zo z19 (zo zW (zo yw (zo z5i zd v1) v0) zd) zd)))))
  (zf (zp (zo kF (pv 10) (zC (zQ (zD (zr zn (jH (zC (zr zn zb)) (zl (ixL v2 zd) zb)))) (zQ (zD (zr zn (zK (jj yJ rfl T.list qE (za v3 zb)) (za (pv 7) zb)))) zb)))))))))))))),?_)
 generalize hK0:K=K1
 revert K1
 show jd #[] ?_;show(z0,λr0 ac=>?_);clear r0 ac H1 n1 x1 r0;show(z0,λr1 eC=>?_);clear r1 eC H2 n2 x2 r1;show(z0,λr2 O=>?_);clear r2 O H3 n3 x3 r2;clear rp fF H4 n4 x4;clear fW gW H5 n5 x5;replace x5:H5 fW=some (.lst (je.map V.str)):=x5;have s3:=n1.trans (n2.trans n3);have s5:=s3.trans (n4.trans n5);have eJ:∀hl,Stk H H5 rp r0 r1 r2 [] [] [] hl:=λhl=>(s5,n5 _ _ x4,yE (n5 _ _ (n4 _ _ (n3 _ _ (n2 _ _ x1)))),yE (n5 _ _ (n4 _ _ (n3 _ _ x2))),yE (n5 _ _ (n4 _ _ x3)),ac,n1.free eC,(n1.trans n2).free O,zq x1 eC,zq (n2 _ _ x1) O,zq x2 O,(zq (n3 _ _ (n2 _ _ x1)) fF).symm,(zq (n3 _ _ x2) fF).symm,(zq x3 fF).symm,λv z=>(by cases z),λv z=>(by cases z),λv z=>(by cases z),λv z=>(by cases z),λv z=>(by cases z),λv z=>(by cases z))
 show !(!(!(cp,!(s5.seq B,λl1 iL=>?_))));rw[z2q];clear l1 iL H6 n6 x6 l1;show(l1,!(SqL.of x6,_,!(rfl,(by change(0:Int)<5;decide),_,!(rfl,(yG rfl),λl2 bx=>?_))));generalize ((ns.drop (HT.sIx ns.length 0 none)).take (HT.sIx ns.length ns.length (some 1)-HT.sIx ns.length 0 none)).sum=sm;clear l2 bx H7 n7 x7 l2;show !(!(cp,!((s5.trans (n6.trans n7)).seq B,λl3 ag=>?_)));rw[z2q];clear l3 ag H8 n8 x8 l3;show(l3,!(SqL.of x8,_,!(rfl,(by change(0:Int)<11;decide),rfl,.inr (!?_))));have S:=n6.trans (n7.trans n8);obtain⟨m,m1,m2,em⟩:∃m:Int,2<=m/\m<=12/\atI [V.int (2+sm%5),V.int 12] (if decide (V.int (((ns.drop (HT.sIx ns.length 0 none)).take (HT.sIx ns.length ns.length (some 1)-HT.sIx ns.length 0 none)).sum%11)=V.int 4)=true then 1 else 0)=some (.int m):=by
  cases decide (V.int (((ns.drop (HT.sIx ns.length 0 none)).take (HT.sIx ns.length ns.length (some 1)-HT.sIx ns.length 0 none)).sum%11)=V.int 4)with
  | true=>show(12,(),(),j8)
  | false=>show(2+sm%5,∅,∅,zH)
 show zv (n8 _ _ x7) em (!(fW,!(SqL.of (S _ _ x5),λhp cE=>?_)));rw[z1k ∅,<-QZ];clear hp cE H9 n9 x9 hp;have gX:(je.take m.toNat).length=m.toNat:=by
  rw[wV];have:je.length=12:=rfl
  lia
 have mw:=(eJ m.toNat).new (S.trans n9);have gP:((je.take m.toNat).map V.str).length=m.toNat:=by rw[w9,gX]
 have uT:hp≠r0:=(zq ((S _ _ ((eJ 0).h0.1))) cE).symm;have AE:hp≠r1:=(zq ((S _ _ ((eJ 0).h1.1))) cE).symm;have AF:hp≠r2:=(zq ((S _ _ ((eJ 0).h2.1))) cE).symm;have rX:hp≠rp:=(zq ((S _ _ ((eJ 0).top))) cE).symm;have F7:∀{H':Hp},zw H9 H'->H' hp=some (.lst ((je.take m.toNat).map V.str)):=λe=>e _ _ x9
 have emax:(if(((ns.map V.int).length:Nat):Int) > 12 then(((ns.map V.int).length:Nat):Int)else 12)=((max 12 ns.length:Nat):Int):=by
  rw[fH];split<;>lia
 show !(cp,!(.inl (mw.same.seq B),_,!(((max 12 ns.length:Nat):Int),Qd (λz=> [V.int z]) emax,∅,∅,z54 (lo:=0) (n:=max 12 ns.length) (StkI H cp more rp hp r0 r1 r2 m.toNat) ([],[],[],none,none,none,none,none,none,rfl,mw,x9,rfl,rfl,rfl) ?_ ?_)))
 .rintro i σ G D Y _ hi ⟨a,b,c,o4,o5,o6,o7,o8,o9,rfl,U,gW,la,lb,lc⟩;have AG:i<18:=by lia
  show !(_,!(rfl,.inl ((),()),_,!(rfl,?_)));show(λσ l=>∃cell:Int,σ= [some (.ref cp),some (.int more),some (.ref rp),some (.ref hp),some (.int (0+(i:Int))),some (.int cell),o6,o7,o8,o9,none]/\l=G,?_,?_)
  .refine !(!(cp,!(.inl (U.same.seq B),_,!(rfl,!?_))));show k7 (λy=>?_) (λy=>?_)
   .have eV:=qD y;rw[fH]at eV;have aL:atI (ns.map V.int) (0+(i:Int))=some (.int (ns.getD i 0)):=by rw[w0q];show zR (int_at ∅)
    show !(!(cp,_,_,!(rfl,U.same.seq B,aL,?_)));show !rfl
   .exact !rfl
  rintro σ G ⟨cell,rfl,rfl⟩;show !(_,!(rfl,(by change(0:Int)<4;decide),_,!(rfl,?_)));show !(_,!(rfl,((),()),!(_,!(rfl,_,!(rfl,(by change(0:Int)<5;decide),_,!(rfl,?_))))));show(λσ l=>∃one other:Int,σ= [some (.ref cp),some (.int more),some (.ref rp),some (.ref hp),some (.int (0+(i:Int))),some (.int cell),some (.int one),some (.int other),o8,o9,none]/\l=G,?_,?_)
  .refine !(_,!(rfl,(by change(0:Int)<23;decide),rfl,!?_));show k7 (λy=>?_) (λy=>?_)
   .refine !(_,!(rfl,?_));show(_,!rfl)
   .exact(_,!rfl)
  rintro σ G ⟨one,other,rfl,rfl⟩;show !(hp,!(.inl (SqL.of gW),2,(m.toNat:Int),Qd (λz:Nat=> [V.int 2,V.int ((z:Nat):Int)]) gP,(∅,∅,∅,∅),?_));show z0f (lo:=2) (n:=((m.toNat:Int)-2).toNat) (λj ys H'=>H'=G/\∃zs:List Int,ys=zs.map V.int/\zs.length=j) (rfl,[],rfl,rfl) ?_ ?_ ?_
  .rintro j ys l hj ⟨rfl,zs,rfl,u⟩;show zG (by rw[w9];lia)
  .rintro j ys l hj ⟨rfl,zs,rfl,u⟩;show !(_,!(rfl,((),()),!(_,!(rfl,!(_,!(rfl,_,!(rfl,(by change(0:Int)<3;decide),rfl,ints_snoc u)))))))
  rintro ys G ⟨rfl,rest,rfl,uU⟩ tp aw;clear tp aw C e1 y1 tp;have bQ:2+rest.length=m.toNat:=by lia
  show !(!?_);clear l4 hl4 L e2 y2;show !(l4,tp,_,!(rfl,y2,e2 _ _ y1,jb (by rw[w9];simp only[wP,QN];lia),λfp bF=>?_));have d:=U.new (e1.trans e2);have nf:=d.fresh bF;clear fp bF G3 e3 x9 fp;replace x9:G3 fp=some (.lst (([one,other]++rest).map V.int)):=by rw[x9,wF];rfl
  have s:=d.new e3;have dJ:=(e1.trans (e2.trans e3)) _ _ gW;have fJ:i%3=0\/i%3=1\/i%3=2:=by lia
  rcases fJ with uV|uV|uV
  .have t:(0+(i:Int))%3=0:=by lia
   have mB:atI [V.ref r0,V.ref r1,V.ref r2] ((0+(i:Int))%3)=some (V.ref r0):=by rw[t];show zH
   show !(!(_,!(rfl,(by change(0:Int)<3;decide),zv s.top mB (.inl (rfl,_,SqL.of s.h0.1),!(!(!?_))))));clear u1 fz G4 eK y4;show !?_;clear u2 hu2 G5 eL y5;clear u3 hu3 G6 m3' y6;have J:=s.new (eK.trans (eL.trans m3'));have g7:=(eK.trans (eL.trans m3')) _ _ dJ;show !(_,!(rfl,(by change(0:Int)<3;decide),zv y6 (by rw[t];show zH) (r0,_,!(rfl,J.h0.1,zG (by rw[w9];lia),?_))));show Y _ _ (_,_,_,_,_,_,_,_,_,rfl,J.push0 (x:= [one,other]++rest) ((eK.trans (eL.trans m3')) _ _ x9) nf (by simp;lia),by rw[zj uT];show g7,by rw[wm,wJ];lia,∅,∅)
  .have t:(0+(i:Int))%3=1:=by lia
   have mB:atI [V.ref r0,V.ref r1,V.ref r2] ((0+(i:Int))%3)=some (V.ref r1):=by rw[t];show j8
   show !(!(_,!(rfl,(by change(0:Int)<3;decide),zv s.top mB (.inl (rfl,_,SqL.of s.h1.1),!(!(!?_))))));clear u1 fz G4 eK y4;show !?_;clear u2 hu2 G5 eL y5;clear u3 hu3 G6 m3' y6;have J:=s.new (eK.trans (eL.trans m3'));have g7:=(eK.trans (eL.trans m3')) _ _ dJ;show !(_,!(rfl,(by change(0:Int)<3;decide),zv y6 (by rw[t];show j8) (r1,_,!(rfl,J.h1.1,zG (by rw[w9];lia),?_))));show Y _ _ (_,_,_,_,_,_,_,_,_,rfl,J.push1 (x:= [other,one]) (m3' _ _ (eL _ _ y4)) (s.fresh fz) rfl,by rw[zj AE];show g7,∅,by rw[wm,wJ];lia,∅)
  .have t:(0+(i:Int))%3=2:=by lia
   have mB:atI [V.ref r0,V.ref r1,V.ref r2] ((0+(i:Int))%3)=some (V.ref r2):=by rw[t];show jF
   show !(!(_,!(rfl,(by change(0:Int)<3;decide),zv s.top mB (.inl (rfl,_,SqL.of s.h2.1),!(!(!?_))))));clear u1 fz G4 eK y4;show !?_;clear u2 hu2 G5 eL y5;clear u3 hu3 G6 m3' y6;have J:=s.new (eK.trans (eL.trans m3'));have g7:=(eK.trans (eL.trans m3')) _ _ dJ;show !(_,!(rfl,(by change(0:Int)<3;decide),zv y6 (by rw[t];show jF) (r2,_,!(rfl,J.h2.1,zG (by rw[w9];lia),?_))));show Y _ _ (_,_,_,_,_,_,_,_,_,rfl,J.push2 (x:= [one]) (m3' _ _ y5) ((s.new eK).fresh hu2) rfl,by rw[zj AF];show g7,∅,∅,by rw[wm,wJ];lia)
 rintro σ G ⟨a,b,c,o4,o5,o6,o7,o8,o9,rfl,U,uW,la,lb,lc⟩;have AH:a.length<=7:=by lia
 have F8:b.length<=7:=by lia
 have F9:c.length<=7:=by lia
 show(λσ l=>∃(a:List (Addr×List Int)) (o4:Option V),σ= [some (.ref cp),some (.int more),some (.ref rp),some (.ref hp),o4,o5,o6,o7,o8,o9,none]/\Stk H l rp r0 r1 r2 a b c m.toNat/\l hp=some (.lst ((je.take m.toNat).map V.str))/\a.length<=60,?_,?_)
 .refine !(!(!(cp,!(U.same.seq B,λl5 ai=>?_))));rw[z2q];clear l5 ai C e1 y1 l5;show(l5,!(SqL.of y1,_,!(rfl,(by change(0:Int)<8;decide),rfl,!?_)));have p:=U.new e1;show k7 (λy=>?_) (λy=>?_)
  .refine !(more,rfl,∅,∅,z54 (lo:=0) (n:=more.toNat) (λi σ l=>∃(a:List (Addr×List Int)) (o4:Option V),σ= [some (.ref cp),some (.int more),some (.ref rp),some (.ref hp),o4,o5,o6,o7,o8,o9,none]/\Stk H l rp r0 r1 r2 a b c m.toNat/\l hp=some (.lst ((je.take m.toNat).map V.str))/\a.length<=7+i) (a,o4,rfl,p,e1 _ _ uW,AH) ?_ ?_)
   .rintro i σ L D Y _ hi ⟨a,o4,rfl,d,I,AI⟩;show !(zv d.top zH (.inl (rfl,_,SqL.of d.h0.1),!(hp,!(.inl (SqL.of I),(m.toNat:Int),Qd (λz:Nat=> [V.int ((z:Nat):Int)]) gP,∅,∅,?_))));show z0f (lo:=0) (n:=(m.toNat:Int).toNat) (λj ys H'=>H'=L/\∃zs:List Int,ys=zs.map V.int/\zs.length=j) (rfl,[],rfl,rfl) ?_ ?_ ?_
    .rintro j ys l hj ⟨rfl,zs,rfl,u⟩;show zG (by rw[w9];lia)
    .rintro j ys l hj ⟨rfl,zs,rfl,u⟩;show !(!(_,!(rfl,_,!(rfl,(by change(0:Int)<4;decide),_,!(rfl,rfl,ints_snoc u)))))
    rintro ys l ⟨rfl,zs,rfl,u⟩ tp aw;have nf:=d.fresh aw;clear tp aw G3 e3 y3 tp;have s:=d.new e3;show(r0,_,!(rfl,s.h0.1,zG (by rw[w9];lia),?_));show Y _ _ (_,!(s.push0 y3 nf (by rw[u];rfl),by rw[zj uT];show e3 _ _ I,by rw[wm,wJ];lia))
   .rintro σ L ⟨a,o4,rfl,d,I,AI⟩;show(a,o4,rfl,d,I,∅)
  .exact(a,o4,rfl,p,e1 _ _ uW,∅)
 rintro σ C ⟨a,o4,rfl,p,fU,rY⟩;show(λσ l=>∃(M s1 s2:Addr) (a b c:List (Addr×List Int)),σ= [some (.ref cp),some (.int more),some (.ref rp),some (.ref hp),o4,o5,o6,o7,o8,o9,none]/\zw H l/\l rp=some (.lst [.ref M,.ref s1,.ref s2])/\l hp=some (.lst ((je.take m.toNat).map V.str))/\RowsAt l M a/\RowsAt l s1 b/\RowsAt l s2 c/\
  (∀r∈a,r.2.length=m.toNat)/\(∀r∈b,r.2.length=2)/\(∀r∈c,r.2.length=1)/\a.length<=60/\b.length<=10/\c.length<=10,?_,?_)
 .have rZ:∃(M s1 s2:Addr) (a b c:List (Addr×List Int)),([some (.ref cp),some (.int more),some (.ref rp),some (.ref hp),o4,o5,o6,o7,o8,o9,none]:List (Option V))= [some (.ref cp),some (.int more),some (.ref rp),some (.ref hp),o4,o5,o6,o7,o8,o9,none]/\zw H C/\C rp=some (.lst [.ref M,.ref s1,.ref s2])/\C hp=some (.lst ((je.take m.toNat).map V.str))/\RowsAt C M a/\RowsAt C s1 b/\RowsAt C s2 c/\
   (∀r∈a,r.2.length=m.toNat)/\(∀r∈b,r.2.length=2)/\(∀r∈c,r.2.length=1)/\a.length<=60/\b.length<=10/\c.length<=10:=
   (r0,r1,r2,a,b,c,rfl,p.same,p.top,fU,p.h0,p.h1,p.h2,p.w0,p.w1,p.w2,rY,∅,∅)
  show z8N (z9a rZ) (λels=>?_);show !(cp,!(.inl (p.same.seq B),_,!(rfl,!?_)));show k7 (λy=>?_) (λy=>els);have eV:=qD y;rw[fH]at eV;have mC:0<ns.length:=by lia
  have AJ:atI (ns.map V.int) 0=some (.int (ns.getD 0 0)):=zR (j:=0) (int_at mC);have uX:atI (ns.map V.int) (-1)=some (.int (ns.getD (ns.length-1) 0)):=zed mC;show !(cp,_,_,!(rfl,p.same.seq B,AJ,_,!(rfl,(by change(0:Int)<9;decide),rfl,!?_)));show k7 (λhc=>?_) (λhc=>els);show(z0,λep af=>?_);clear ep af L e2 y2 ep;generalize ns.getD (ns.length-1) 0=lst at uX;show !(!(!(cp,_,_,!(rfl,(p.same.trans e2).seq B,uX,_,!(rfl,(by change(0:Int)<3;decide),?_)))));have d:=p.new e2;have sg:ep≠rp:=(zq p.top af).symm;have si:H rp=none:=s3.free fF;have fJ:lst%3=0\/lst%3=1\/lst%3=2:=by lia
  have kp:∀{q:Addr} {rs:List (Addr×List Int)} {o:HO},RowsAt L q rs->q≠rp->RowsAt (upd L rp o) q rs:=λ{q rs o} h n=>h.kp z2V n λr m z=>by
   have h1:=(h.2 r m).2;rw[z,d.top]at h1;have h2:=Qd (λx=>match x with|some (HO.lst xs)=>xs|_=> []) h1;have t: [V.ref r0,V.ref r1,V.ref r2]=r.2.map V.int:=h2;cases O:r.2 with
   | nil=>rw[O]at t;cases t
   | cons x xs=>rw[O]at t;cases t
  rcases fJ with fJ|fJ|fJ
  .refine(rp,_,_,0,rfl,rfl,d.top,by rw[fJ];rfl,?_);show(ep,r1,r2,[],b,c,rfl,(d.same).put si,zh,by rw[zj rX];show e2 _ _ fU,kp (yE y2) sg,kp d.h1 d.np1.symm,kp d.h2 d.np2.symm,λv z=>(by cases z),d.w1,d.w2,qU _,∅,∅)
  .refine(rp,_,_,1,rfl,rfl,d.top,by rw[fJ];rfl,?_);show(r0,ep,r2,a,[],c,rfl,(d.same).put si,zh,by rw[zj rX];show e2 _ _ fU,kp d.h0 d.np0.symm,kp (yE y2) sg,kp d.h2 d.np2.symm,d.w0,λv z=>(by cases z),d.w2,rY,qU _,∅)
  .refine(rp,_,_,2,rfl,rfl,d.top,by rw[fJ];rfl,?_);show(r0,r1,ep,a,b,[],rfl,(d.same).put si,zh,by rw[zj rX];show e2 _ _ fU,kp d.h0 d.np0.symm,kp d.h1 d.np1.symm,kp (yE y2) sg,d.w0,d.w1,λv z=>(by cases z),rY,∅,qU _)
 rintro σ L ⟨M,s1,s2,a,b,c,rfl,AK,top2,I,j0,j1,j2,w0,w1,w2,c0,c1,c2⟩;show !(!(zv top2 zH ?_));clear t0 ht0 G3 e3 y3;clear wl ar G4 e4 y4;show !(zv (e4 _ _ (e3 _ _ top2)) j8 ?_);clear t1 ht1 G5 e5 y5;clear mp iK G6 e6 y6;have uY:=e3.trans (e4.trans (e5.trans e6));show(3,rfl,(),(),?_);show z0f (lo:=0) (n:=(3:Int).toNat) (λi ys H'=>zw G6 H'/\∃qs:List (Addr×List Int),ys=refs qs/\qs.length=i/\(∀r∈qs,H' r.1=some (.lst (r.2.map V.int))/\r.2.length=m.toNat)) (zw.refl _,[],rfl,rfl,λv z=>(by cases z)) ?_ ?_ ?_
 .rintro i ys l hi ⟨ae,qs,rfl,Z,hq⟩;show zG (by rw[w9,Z];show wY hi ())
 .rintro i ys l hi ⟨ae,qs,rfl,Z,hq⟩;have AL:=ae _ _ (uY _ _ I);show !(hp,!(.inl (SqL.of AL),(m.toNat:Int),Qd (λz:Nat=> [V.int ((z:Nat):Int)]) gP,∅,∅,?_));show z0f (lo:=0) (n:=(m.toNat:Int).toNat) (λj ys H'=>H'=l/\∃zs:List Int,ys=zs.map V.int/\zs.length=j) (rfl,[],rfl,rfl) ?_ ?_ ?_
  .rintro j ys l hj ⟨rfl,zs,rfl,u⟩;show zG (by rw[w9];lia)
  .rintro j ys l hj ⟨rfl,zs,rfl,u⟩;show !(_,!(rfl,.inl ((),()),!(_,!(rfl,_,!(rfl,(by change(0:Int)<5;decide),_,!(rfl,rfl,ints_snoc u))))))
  .rintro ys G7 ⟨rfl,zs,rfl,u⟩ lp bB;have n8:=zz bB (.lst (zs.map V.int));show(ae.trans n8,qs++[(lp,zs)],by simp[refs],by rw[wm,Z];rfl,λr mm=>?_);rcases wE.mp mm with mm|mm
   .exact(n8 _ _ (hq r mm).1,(hq r mm).2)
   .rw [ww.mp mm];show(zh,by rw[u];rfl)
 rintro ys G7 ⟨AM,qs,rfl,Z,hq⟩ op uZ;clear op uZ G8 e8 y8 op;have mD:=AM.trans e8;have sj:=uY.trans mD;have ro:=yj uZ e8 y8 λr mm=>(hq r mm).1
 show !?_;clear xl gH G9 e9 y9;show !(zv (e9 _ _ (sj _ _ top2)) jF ?_);clear t2 mE G10 e10 um;show !(hp,!(.inl (SqL.of (e10 _ _ (e9 _ _ (sj _ _ I)))),λcl bA=>?_));clear cl bA G11 e11 uo cl;show !?_;clear t3 su G12 e12 re;clear bp hbp G13 e13 rf;have mF:=e9.trans (e10.trans (e11.trans (e12.trans e13)));show(mp,bp,_,!(rfl,mF _ _ (mD _ _ y6),rf,(yG rfl),λN X=>?_));clear N X G14 e14 rg N;have eM:=mF.trans e14;have eN:=sj.trans eM;have tok:=tabs_ok (m:=m.toNat) (r0:=a.map (·.2)) (r1:=b.map (·.2)) (r2:=c.map (·.2)) (r3:=qs.map (·.2)) ∅ ∅ (λr mm=>by obtain⟨x,R,rfl⟩:=qx.mp mm;rw[gX];show w0 x R) (λr mm=>by obtain⟨x,R,rfl⟩:=qx.mp mm;show w1 x R)
  (λr mm=>by obtain⟨x,R,rfl⟩:=qx.mp mm;show w2 x R) (λr mm=>by obtain⟨x,R,rfl⟩:=qx.mp mm;rw[gX];show(hq x R).2) (by rw[w9];show c0) (by rw[w9];show c1) (by rw[w9];show c2) (by rw[w9,Z];rfl)
 show fin N _ _ _ (AK.trans eN) tok (.ref t0,.ref t1,.ref t2,.ref t3,rg,(t0,hp,M,a,rfl,?_,?_,j0.same eN,?_),(t1,wl,s1,b,rfl,?_,?_,j1.same eN,?_),(t2,xl,s2,c,rfl,?_,?_,j2.same eN,?_),(t3,cl,op,qs,rfl,?_,?_,ro.same eM,?_))
 .exact(e4.trans (e5.trans (e6.trans (mD.trans eM)))) _ _ y3
 .rw [show z2k (je.take m.toNat) "t"=je.take m.toNat by unfold z2k;rw[wW (),wW ()]];show eN _ _ I
 .unfold z3V;rw[qd rfl]
 .exact(e6.trans (mD.trans eM)) _ _ y5
 .rw [show z2k (je.take m.toNat) "tuvtuvtuvw"=z2U by unfold z2k;rw[qd rfl]];show(e5.trans (e6.trans (mD.trans eM))) _ _ y4
 .unfold z3V;rw[wW (),qd rfl]
 .exact(e11.trans (e12.trans (e13.trans e14))) _ _ um
 .rw [show z2k (je.take m.toNat) "tuvtuvtuvx"=(["e"]:List Str) by unfold z2k;rw[wW (),qd rfl]];show(e10.trans (e11.trans (e12.trans (e13.trans e14)))) _ _ y9
 .unfold z3V;rw[wW (),wW (),qd rfl]
 .exact(e13.trans e14) _ _ re
 .rw [show z2k (je.take m.toNat) "tuvz"=je.take m.toNat by unfold z2k;rw[wW (),wW ()]];show(e12.trans (e13.trans e14)) _ _ uo
 .unfold z3V;rw[wW (),wW (),wW ()]
inductive spTexts (K:W.Frag) (vs:List V) (H:Hp) (Q:VK) (E:XK):Prop
 | mk:∀a b (ss:List Str),vs= [.ref a,.ref b]->H a=some (.lst (ss.map V.str))->SqL K H b (ss.map V.str)->ss.length<=100000->Q (.bl true) H->spTexts K vs H Q E
theorem z2M:FnScope ["_law_found","_law_due","_law_k"] ["_law_found","_law_due"] (zi z1I):=by done
theorem z5u(F:Fun K "_law_texts" "_law_texts" z1I f fd)(T:Txt K mg):FnOk P w K mg base CX0 1 f fd ["_law_found","_law_due"] (spTexts K):=by
 clear z2M vs H Q E h F;obtain⟨a,b,ss,rfl,ha,d,hz,q⟩:=h;intro aa A outer p hr;show(_,(zc (zB (z1u (jJ (zX (zF zI rfl T.isinstance wI (za v0 (za (zY (v:= .ty "list") rfl T.list qE rfl) zb))))) (cmT z0R (leN T.len (za v0 zb)) (leN T.len (za v1 zb))))
   (zf (zp jv))
   zt)
  (zc (foR (jU rfl T.range (zK (leN T.len (za v1 zb)) zb)) (gnM 2 z2M)
   (zf (zB (z1u (jJ (zX (zF zI rfl T.isinstance wI (zl (ixL v0 v2) (za (zY (v:= .ty "str") rfl T.str qP rfl) zb))))) (cmT z0R (ixL v0 v2) (ixL v1 v2)))
    (zf (zp jv))
    zt)))
  (zf (zp jv)))),?_)
 generalize hK0:K=K1
 revert K1
 show jd #[] ?_;have hl:(ss.map V.str).length=ss.length:=w9 _;have j: -(2 ^ 62)<=(((ss.map V.str).length:Nat):Int):=by lia
 have e:(((ss.map V.str).length:Nat):Int)<2 ^ 62:=by rw[hl];lia
 show !(_,_,_,!(TyOf.lst ha,jr,!(_,(!(a,!(.inl (SqL.of ha),!(b,!(.inl d,rfl,!(rfl,rfl)))))),?_)));show ifF (by simp) ?_;show !(b,!(.inl d,!(j,e,z2v (lo:=0) (n:=(ss.map V.str).length) (λi σ H2=>∃v:Option V,σ= [some (.ref a),some (.ref b),v]/\H2=H) (none,rfl,rfl) ?_ ?_)))
 .rintro i σ H2 hi ⟨v,rfl,rfl⟩;have l:i<ss.length:=by rw[hl]at hi;show hi
  have o:(ss.map V.str)[i]? =some (.str ss[i]):=by
   rw[wM,we l]
   rfl
  have c:atI (ss.map V.str) (0+(i:Int))=some (.str ss[i]):=by
   rw[w0q];show zR o
  show !(!(zv ha c (_,_,_,!(TyOf.str _,jr,!(_,(!(!(zv ha c (!(!(b,_,_,!(rfl,d,c,rfl,!(rfl,rfl)))))))),?_)))));show ifF (by simp) ?_;show !rfl
 .rintro σ H2 ⟨v,rfl,rfl⟩;show q
inductive spWhole (vs:List V) (H:Hp) (Q:VK) (E:XK):Prop
 | mk:∀v b,vs= [v]->(∃i,v= .int i/\b=true)\/(b=false/\((∃s,v= .str s)\/∃p xs,v= .ref p/\H p=some (.tup xs)))->Q (.bl b) H->spWhole vs H Q E
theorem z7f:PySem.W.kitOne K (.type "str") (.type "int")=some false:=by kernel_rfl
theorem z6m:PySem.W.kitOne K (.type "str") (.type "bool")=some false:=by kernel_rfl
theorem z79:PySem.W.kitOne K (.type "tuple") (.type "int")=some false:=by kernel_rfl
theorem z6Z:PySem.W.kitOne K (.type "tuple") (.type "bool")=some false:=by kernel_rfl
theorem z8c:PySem.W.kitOne K (.type "tuple") (.type "str")=some false:=by kernel_rfl
theorem z5y:FnScope ["_law_found"] ["_law_found"] (zi z1J):=by done
theorem z5t(F:Fun K "_law_whole" "_law_whole" z1J f fd)(T:Txt K mg):FnOk P w K mg base CX0 1 f fd ["_law_found"] spWhole:=by
 clear z5y vs H Q E h F;obtain⟨v,b,rfl,a,q⟩:=h;intro aa A outer c hr;show(_,(zf (zp (zdY (zF zI rfl T.isinstance wI (za v0 (za (zY (v:= .ty "int") rfl T.int w1k rfl) zb))) (z8y (zF zI rfl T.isinstance wI (za v0 (za (zY (v:= .ty "bool") rfl T.bool PyProof.Rows.boot_bool rfl) zb))))))),?_);generalize hK0:K=K1
 revert K1
 show jd #[] ?_;rcases a with⟨i,rfl,rfl⟩|⟨rfl,⟨s,rfl⟩|⟨p,xs,rfl,hp⟩⟩
 rotate_left
 .exact !(_,_,_,!(TyOf.str s,z7f,!(_,(!(_,_,_,!(TyOf.str s,z6m,!(rfl,rfl)))),q)))
 .exact !(_,_,_,!(TyOf.tup hp,z79,!(_,(!(_,_,_,!(TyOf.tup hp,z6Z,!(rfl,rfl)))),q)))
 show !(_,_,_,!(TyOf.int i,jr,!(_,(!(_,_,_,!(TyOf.int i,z77,!(rfl,rfl)))),q)))
inductive spNumbers (K:W.Frag) (vs:List V) (H:Hp) (Q:VK) (E:XK):Prop
 | mk:∀a b (ns:List Int),vs= [.ref a,.ref b]->H a=some (.lst (ns.map V.int))->SqL K H b (ns.map V.int)->ns.length<=100000->Q (.bl true) H->spNumbers K vs H Q E
theorem z1N:FnScope ["_law_found","_law_due","_law_k"] ["_law_found","_law_due"] (zi z0K):=by done
theorem z4p(F:Fun K "_law_numbers" "_law_numbers" z0K f fd)(T:Txt K mg)(c:Kn P w K mg base 1 "_law_whole" ["_law_found"] spWhole):FnOk P w K mg base CX0 2 f fd ["_law_found","_law_due"] (spNumbers K):=by
 clear z1N vs H Q E h F;obtain⟨a,b,ns,rfl,ha,e,hz,q⟩:=h;intro aa A outer p hr;show(_,(zc (zB (z1u (jJ (zX (zF zI rfl T.isinstance wI (za v0 (za (zY (v:= .ty "list") rfl T.list qE rfl) zb))))) (cmT z0R (leN T.len (za v0 zb)) (leN T.len (za v1 zb))))
   (zf (zp jv))
   zt)
  (zc (foR (jU rfl T.range (zK (leN T.len (za v1 zb)) zb)) (gnM 2 z1N)
   (zf (zB (z1u (jJ (zX (zS c hr.m (zl (ixL v0 v2) zb)))) (cmT z0R (ixL v0 v2) (ixL v1 v2)))
    (zf (zp jv))
    zt)))
  (zf (zp jv)))),?_)
 generalize hK0:K=K1
 revert K1
 show jd #[] ?_;have hl:(ns.map V.int).length=ns.length:=w9 _;have l: -(2 ^ 62)<=(((ns.map V.int).length:Nat):Int):=by lia
 have j:(((ns.map V.int).length:Nat):Int)<2 ^ 62:=by rw[hl];lia
 show !(_,_,_,!(TyOf.lst ha,jr,!(_,(!(a,!(.inl (SqL.of ha),!(b,!(.inl e,rfl,!(rfl,rfl)))))),?_)));show ifF (by simp) ?_;show !(b,!(.inl e,!(l,j,z2v (lo:=0) (n:=(ns.map V.int).length) (λi σ H2=>∃v:Option V,σ= [some (.ref a),some (.ref b),v]/\H2=H) (none,rfl,rfl) ?_ ?_)))
 .rintro i σ H2 hi ⟨v,rfl,rfl⟩;have o:i<ns.length:=by rw[hl]at hi;show hi
  have d:atI (ns.map V.int) (0+(i:Int))=some (.int ns[i]):=by
   rw[w0q];show zR (by rw[wM,we o];rfl)
  show !(!(zv ha d (_,_,rfl,.inl (_,rfl,rfl),!(_,(!(!(zv ha d (!(!(b,_,_,!(rfl,e,d,rfl,!(rfl,rfl)))))))),?_))));show ifF (by simp) ?_;show !rfl
 .rintro σ H2 ⟨v,rfl,rfl⟩;show q
inductive spAlike (K:W.Frag) (vs:List V) (H:Hp) (Q:VK) (E:XK):Prop
 | mk:∀a b rs qs,vs= [.ref a,.ref b]->RowsAt H a rs->RowsAt H b qs->rs.map (·.2)=qs.map (·.2)->rs.length<=100000->(∀r∈rs,r.2.length<=100000)->Q (.bl true) H->spAlike K vs H Q E
theorem z2L:FnScope ["_law_found","_law_due","_law_k"] ["_law_found","_law_due"] (zi z1z):=by done
theorem z5r(F:Fun K "_law_alike" "_law_alike" z1z f fd)(T:Txt K mg)(c:Kn P w K mg base 2 "_law_numbers" ["_law_found","_law_due"] (spNumbers K)):FnOk P w K mg base CX0 3 f fd ["_law_found","_law_due"] (spAlike K):=by
 clear z2L vs H Q E h F;obtain⟨a,b,rs,qs,rfl,ha,e,he,hz,o,q⟩:=h;intro aa A outer r hr;show(_,(zc (zB (z1u (jJ (zX (zF zI rfl T.isinstance wI (za v0 (za (zY (v:= .ty "list") rfl T.list qE rfl) zb))))) (cmT z0R (leN T.len (za v0 zb)) (leN T.len (za v1 zb))))
   (zf (zp jv))
   zt)
  (zc (foR (jU rfl T.range (zK (leN T.len (za v1 zb)) zb)) (gnM 2 z2L)
   (zf (zB (jJ (zX (zS c hr.m (zl (ixL v0 v2) (zl (ixL v1 v2) zb)))))
    (zf (zp jv))
    zt)))
  (zf (zp jv)))),?_)
 generalize hK0:K=K1
 revert K1
 show jd #[] ?_;have p:(refs rs).length=rs.length:=w9 _;have j:(refs qs).length=qs.length:=w9 _;have hl:rs.length=qs.length:=by
  have:=Qd List.length he
  rwa [w9,w9]at this
 show !(_,_,_,!(TyOf.lst ha.1,jr,!(_,(!(a,!(.inl (SqL.of ha.1),!(b,!(.inl (SqL.of e.1),rfl,!(rfl,rfl)))))),?_)));show ifF (by rw[p,j,hl];simp) ?_;show !(b,!(.inl (SqL.of e.1),!(∅,by rw[j];lia,z2v (lo:=0) (n:=(refs qs).length) (λi σ H2=>∃v:Option V,σ= [some (.ref a),some (.ref b),v]/\H2=H) (none,rfl,rfl) ?_ ?_)))
 .rintro i σ H2 hi ⟨v,rfl,rfl⟩;rw[j]at hi;have d:i<rs.length:=by lia
  have l:rs[i].2=qs[i].2:=by
   have h1:(rs.map (·.2))[i]? =some rs[i].2:=by rw[wM,we d];rfl
   rw[he,wM,we hi]at h1;show(Option.some.inj h1).symm
  show !(!(zv ha.1 (z6J d) (!(!(zv e.1 (z6J hi) (rs[i].1,qs[i].1,rs[i].2,rfl,(ha.2 _ (wz d)).2,SqL.of (by rw[l];show(e.2 _ (wz hi)).2),o _ (wz d),!?_))))));show ifF (by rfl) ?_;show !rfl
 .rintro σ H2 ⟨v,rfl,rfl⟩;show q
structure TxtP(K:W.Frag)(mg:Str->Option Value):Prop where
 cmp:∃a,mg "COMPARISONS"=some (.ref a)/\∀H,SqT K H a [.str "less",.str "same"]
 set:mg "set"=none
 two:∃a,mg "TWOFOLD"=some (.ref a)/\∀H,SqT K H a [.str "pair",.str "join",.str "both"]
inductive spNum (K:W.Frag) (vs:List V) (H:Hp) (Q:VK) (E:XK):Prop
 | mk:∀(sd:Side) hp rp (hs:List Str) (rs:List Int),vs= [sd.v,.ref hp,.ref rp]->SqL K H hp (hs.map V.str)->SqL K H rp (rs.map V.int)->hs.length=rs.length->sd.ok hs->Q (.int (num hs rs sd)) H->spNum K vs H Q E
theorem z6I:FnScope ["side","heads","row"] ["side","heads","row"] (zi z2a):=by done
theorem z6N(F:Fun K "number_of" "number_of" z2a f fd)(T:Txt K mg):FnOk P w K mg base CX0 1 f fd ["side","heads","row"] (spNum K):=by
 clear z6I vs H Q E h F;obtain⟨sd,hp,rp,hs,rs,rfl,h1,h2,hl,ok,q⟩:=h;intro aa A outer d hr;show(_,(zc (zB (zX (zF zI rfl T.isinstance wI (za v0 (za (zY (v:= .ty "str") rfl T.str qP rfl) zb))))
   (zf (zp (ixL v2 (kg wO qG qI yf v1 (za v0 zb)))))
   zt)
  (zf (zp v0))),?_)
 generalize hK0:K=K1
 revert K1
 show jd #[] ?_;cases sd with
 | nm x=>
  show !(_,_,_,!(TyOf.str x,jr,!?_));show z8W ?_;have a:x∈hs:=ok;have b:hs.idxOf x<rs.length:=by
   rw[<-hl];show qC.mpr a
  have c:(rs.map V.int)[hs.idxOf x]? =some (V.int (rs.getD (hs.idxOf x) 0)):=by
   rw[wM,we b,wn,we b]
   rfl
  show !(!(.inl (rfl,_,h1),!(hp,_,_,hs.idxOf x,rfl,rfl,h1,rfl,zV hs,(ji a).1,(ji a).2,rp,_,_,!(rfl,h2,zR c,q))))
 | nu i=>
  show !(_,_,_,!(TyOf.int i,kh,!?_));show z9a ?_;show !q
inductive spCmp (K:W.Frag) (vs:List V) (H:Hp) (Q:VK) (E:XK):Prop
 | mk:∀c vc hp rp (hs:List Str) (rs:List Int),vs= [vc,.ref hp,.ref rp]->zE H c vc->c.leaf=true->c.ok hs->SqL K H hp (hs.map V.str)->SqL K H rp (rs.map V.int)->hs.length=rs.length->Q (.bl (ev hs rs c)) H->spCmp K vs H Q E
theorem z1Z:FnScope ["comparison","heads","row","first","second"] ["comparison","heads","row"] (zi z2Q):=by done
theorem z7Y(F:Fun K "compared" "compared" z2Q f fd)(T:Txt K mg)(e:Kn P w K mg base 1 "number_of" ["side","heads","row"] (spNum K)):FnOk P w K mg base CX0 2 f fd ["comparison","heads","row"] (spCmp K):=by
 clear z1Z vs H Q E h F;obtain⟨c,vc,hp,rp,hs,rs,rfl,hc,lf,ok,h1,h2,hl,q⟩:=h;intro aa A outer j hr;show(_,(zc (seT 3 z1Z (zS e hr.m (zl (ixT v0 zd) (za v1 (za v2 zb)))))
  (zc (seT 4 z1Z (zS e hr.m (zl (ixT v0 zd) (za v1 (za v2 zb)))))
  (zc (zB (cmT zO (ixT v0 zd) zn)
   (zf (zp (cmE z6h v3 v4)))
   zt)
  (zf (zp (cmE zO v3 v4)))))),?_)
 generalize hK0:K=K1
 revert K1
 show jd #[] ?_;cases c with
 | less a b=>
  obtain⟨p,rfl,h⟩:=hc;obtain⟨i,kb⟩:=ok;show !(zg h j8 (!(!(a,hp,rp,hs,rs,rfl,h1,h2,hl,i,?_))));show !(zg h jF (!(!(b,hp,rp,hs,rs,rfl,h1,h2,hl,kb,?_))));show !(zg h zH (rfl,!?_));show ifT () ?_;show !(!(_,!(rfl,q)))
 | same a b=>
  obtain⟨p,rfl,h⟩:=hc;obtain⟨i,kb⟩:=ok;show !(zg h j8 (!(!(a,hp,rp,hs,rs,rfl,h1,h2,hl,i,?_))));show !(zg h jF (!(!(b,hp,rp,hs,rs,rfl,h1,h2,hl,kb,?_))));show !(zg h zH (rfl,!?_));show ifF () ?_;show !(!(rfl,?_));show qbl z3o q
 | no c=>cases lf
 | an c d=>cases lf
 | or c d=>cases lf
inductive spHolds (K:W.Frag) (vs:List V) (H:Hp) (Q:VK) (E:XK):Prop
 | mk:∀c vc hp rp (hs:List Str) (rs:List Int),vs= [vc,.ref hp,.ref rp]->zE H c vc->c.ok hs->c.size<=100000->SqL K H hp (hs.map V.str)->SqL K H rp (rs.map V.int)->hs.length=rs.length->(∀H',zw H H'->Q (.bl (ev hs rs c)) H')->spHolds K vs H Q E
theorem yU:FnScope ["condition","heads","row","above","part","answer","over"] ["condition","heads","row"] (zi z6P):=by done
theorem zbn(F:Fun K "holds" "holds" z6P f fd)(T:Txt K mg)(R:TxtP K mg)(e:Kn P w K mg base 2 "compared" ["comparison","heads","row"] (spCmp K)):FnOk P w K mg base CX0 3 f fd ["condition","heads","row"] (spHolds K):=by
 clear yU vs H Q E h F;obtain⟨c,vc,hp,rp,hs,rs,rfl,hc,ok,hz,h1,h2,hl,q⟩:=h;obtain⟨cA,AO,sA⟩:=R.cmp;intro aa A outer sh hr;show(_,(zc (seT 3 yU (zC zb))
  (zc (seT 4 yU v0)
  (zc (seT 5 yU jv)
  (zc (z4f (cmT z3h v4 kC)
   (zc (z4f (z01 kD (ixT v4 zd) (za8 (v:= .ref cA) rfl AO rfl) (by with_unfolding_all rfl))
    (zc (j7 (apP v3 (za v4 zb)))
    (zf (seT 4 yU (ixT v4 zd)))))
   (zc (seT 5 yU (zS e hr.m (za v4 (za v1 (za v2 zb)))))
   (zc (seT 4 yU kC)
   (zf (z4f (z3n (z29 v3 (λk=>rfl)) (cmT z8P v4 kC))
    (zc (seT 6 yU (z26 wO Qz QA z2b v3))
    (zf (zB (cmT zO (ixT (pv 6) zd) zn)
     (zf (seT 5 yU (z8y v5)))
     (zf (zB (cmT zO v5 (cmE zO (ixT (pv 6) zd) zn))
      (zf (seT 4 yU (ixT (pv 6) zd)))
      zt)))))))))))
  (zf (zp v5)))))),?_)
 generalize hK0:K=K1
 revert K1
 show jd #[] ?_;show((by change 0<=sizeLine;decide),λl hn=>?_);show !?_;have put:∀o,zw H (upd H l o):=λo=>zz hn o
 have sB:∀{d:Cond} {v:V} (o:HO),zE H d v->zE (upd H l o) d v:=λo h=>h.mono (z0a hn)
 show yV (λm σ H'=>∃(fs:List (V×Cond)) (pv:V) (I:Bool) (L:Option V),σ= [some vc,some (.ref hp),some (.ref rp),some (.ref l),some pv,some (.bl I),L]/\H'=upd H l (.lst (fs.map (·.1)))/\
   (∀g∈fs,zE H g.2 g.1/\g.2.leaf=false/\g.2.ok hs)/\m<=c.size/\
   ((∃d,zE H d pv/\d.ok hs/\unw hs rs fs (ev hs rs d)=ev hs rs c/\m=d.size+wt fs)\/(pv= .non/\fs= []/\I=ev hs rs c/\m=0))) c.size
  ([],vc,false,none,rfl,rfl,λk z=>(by cases z),wA _,.inl (c,hc,ok,rfl,rfl)) ?_
 rintro m σ H' ⟨fs,pv,I,L,rfl,rfl,hf,hm,dW⟩;rcases dW with⟨d,hd,AQ,ed,rfl⟩|⟨rfl,rfl,rfl,rfl⟩
 .-- the part is a condition
  obtain⟨pp,Fa,rfl,rM⟩:=hd.ref;show !(rfl,!?_);show ifT (by rfl) ?_;show z7B λD Y k=>?_
  show yV (λZ σ H'=>∃(j:List (V×Cond)) (pv:V) (d1:Cond),σ= [some vc,some (.ref hp),some (.ref rp),some (.ref l),some pv,some (.bl I),L]/\H'=upd H l (.lst (j.map (·.1)))/\
   (∀g∈j,zE H g.2 g.1/\g.2.leaf=false/\g.2.ok hs)/\zE H d1 pv/\d1.ok hs/\unw hs rs j (ev hs rs d1)=ev hs rs c/\d1.size+wt j=d.size+wt fs/\Z=d1.size) d.size
   (fs,_,d,rfl,rfl,hf,hd,AQ,ed,rfl,rfl) ?_
  rintro Z σ H' ⟨j,Fb,d1,rfl,rfl,v8,M,N,v9,Fc,rfl⟩;have eG:(j.map (·.1)).length<sizeLine:=by
   rw[w9];show zG (by have:=zbi j;lia)
  obtain⟨p1,w1,va,rfl,X,iw⟩:=M.head;show !(zg (z0a hn _ _ X) zH (cA,!(.inr (sA _),rfl,rfl,!?_)));cases lf:d1.leaf with
  | false=>
   show ifT (by rw[iw,lf];rfl) ?_;show z7B λD2 hM k=>?_
   obtain⟨y,r,d2,rfl,C,O,n,a2⟩:=M.down hs rs X lf N;show !(.inl (rfl,_,SqL.of zh),!(l,_,!(rfl,zh,eG,?_)));show !(zg (by rw[z1r];show z0a hn _ _ X) j8 ?_);have h3:1<=wgt d1:=by cases d1<;>simp only[wgt]<;>lia
   show hM _ _ (d2.size,∅,j++[(V.ref p1,d1)],y,d2,rfl,by rw[z1r,wF];rfl,?_,C,O,by rw[z7e,a2];show v9,by rw[z9l];change d2.size+(wt j+wgt d1)=_;lia,rfl);intro g hg;rcases wE.mp hg with hg|hg
   .exact v8 g hg
   .rw [ww.mp hg];show(M,lf,N)
  | true=>
   show ifF (by rw[iw,lf];rfl) ?_;show !(!(!(d1,_,hp,rp,hs,rs,rfl,sB _ M,lf,N,(put _).seq h1,(put _).seq h2,hl,?_)));have Fd:=d1.size_pos;show yV (λm2 σ H'=>∃(i:List (V×Cond)) (pv:V) (s:Bool) (G:Option V),σ= [some vc,some (.ref hp),some (.ref rp),some (.ref l),some pv,some (.bl s),G]/\H'=upd H l (.lst (i.map (·.1)))/\
    (∀g∈i,zE H g.2 g.1/\g.2.leaf=false/\g.2.ok hs)/\m2=i.length/\
    ((pv= .non/\unw hs rs i s=ev hs rs c/\wt i<d.size+wt fs)\/∃d2,zE H d2 pv/\d2.ok hs/\unw hs rs i (ev hs rs d2)=ev hs rs c/\d2.size+wt i<d.size+wt fs)) j.length
    (j,.non,_,L,rfl,rfl,v8,rfl,.inl (rfl,v9,∅)) ?_
   rintro m2 σ H' ⟨i,Fe,s,G,rfl,rfl,J,rfl,cY⟩;show !(_,.inl (_,SqL.of zh,rfl),_,(!(rfl,!(rfl,rfl))),?_);rcases cY with⟨rfl,n,l2⟩|⟨d2,C,O,n,l2⟩
   .by_cases ai:i= []
    .subst ai;show ifF (by rfl) ?_;show Y _ _ (0,∅,[],.non,s,G,rfl,rfl,J,qU _,.inr (rfl,rfl,n,rfl))
    .obtain⟨gs,g,rfl⟩:=z2p ai;show ifT (by simp) ?_;show z7B λD3 u k=>?_
     obtain⟨hg,lg,og⟩:=J g (wC _ (ww.mpr rfl));have t:∀g'∈gs,zE H g'.2 g'.1/\g'.2.leaf=false/\g'.2.ok hs:=λg' h=>J g' (q5 _ h)
     rw[z7e]at n;rw[z9l]at l2;have B:gs.length<(gs++[g]).length:=by rw[wm,wJ];lia
     show !(.inl (rfl,_,SqL.of zh),l,_,g.1,rfl,rfl,zh,by rw[wF];show z16 _ _,?_);have eh:upd (upd H l (.lst ((gs++[g]).map (·.1)))) l (.lst (((gs++[g]).map (·.1)).dropLast))=upd H l (.lst (gs.map (·.1))):=by
      rw[z1r,wF]
      change upd H l (.lst ((gs.map (·.1)++[g.1]).dropLast))=_
      rw[QI]
     rw[eh];obtain⟨gv,gc⟩:=g;cases gc with
     | less a b=>cases lg
     | same a b=>cases lg
     | no x=>
      obtain⟨p,y,ep,a7,_⟩:=hg;cases ep;show !(zg (z0a hn _ _ a7) zH (rfl,!?_));show ifT () ?_;show !(!?_);show u _ _ (gs.length,B,gs,.non,not s,!(rfl,t,rfl,.inl (rfl,n,∅)))
     | an x y=>
      obtain⟨p,vx,S,ep,a7,hx,U⟩:=hg;cases ep;show !(zg (z0a hn _ _ a7) zH (rfl,!?_));show ifF () ?_;show !(!(zg (z0a hn _ _ a7) zH (rfl,rfl,!?_)));cases s with
      | true=>
       show ifT () ?_;show !(zg (z0a hn _ _ a7) jF ?_);show u _ _ (gs.length,B,gs,S,true,!(rfl,t,rfl,.inr (y,U,og.2,n,by simp only[wgt]at l2;lia)))
      | false=>
       show ifF () ?_;show u _ _ (gs.length,B,gs,.non,false,!(rfl,t,rfl,.inl (rfl,n,∅)))
     | or x y=>
      obtain⟨p,vx,S,ep,a7,hx,U⟩:=hg;cases ep;show !(zg (z0a hn _ _ a7) zH (rfl,!?_));show ifF () ?_;show !(!(zg (z0a hn _ _ a7) zH (rfl,rfl,!?_)));cases s with
      | false=>
       show ifT () ?_;show !(zg (z0a hn _ _ a7) jF ?_);show u _ _ (gs.length,B,gs,S,false,!(rfl,t,rfl,.inr (y,U,og.2,n,by simp only[wgt]at l2;lia)))
      | true=>
       show ifF () ?_;show u _ _ (gs.length,B,gs,.non,true,!(rfl,t,rfl,.inl (rfl,n,∅)))
   .obtain⟨p2,x2,rfl,bf⟩:=C.ref;show ifF (by simp) ?_;show Y _ _ (d2.size+wt i,l2,i,_,s,G,rfl,rfl,J,∅,.inl (d2,C,O,n,rfl))
 .-- no part is left
  show !(rfl,!?_);show ifF (by rfl) ?_;show !?_;show q _ (put _)
inductive Kid where
 | s (x:Side)|c (x:Cond)
def Kid.At(H:Hp)(k:V×Kid):Prop:=match k.2 with
 | .s x=>k.1=x.v
 | .c x=>zE H x k.1
noncomputable def Kid.cols:Kid->List Str
 | .s x=>x.cols
 | .c x=>x.cols
noncomputable def Kid.size:Kid->Nat
 | .s _=>0
 | .c x=>x.size
theorem zaW{v:V}(h:zE H c v):∃(p:Addr) (w:Str) (ks:List (V×Kid)),v= .ref p/\H p=some (.tup (.str w::ks.map (·.1)))/\ks.length<=2/\ks≠ []/\(∀k∈ks,Kid.At H k)/\(∀s,s∈c.cols↔∃k∈ks,s∈k.2.cols)/\(ks.map λk=>k.2.size).sum+1=c.size:=by
 cases c with
 | less a b=>
  obtain⟨p,rfl,h⟩:=h;show(p,_,[(a.v,.s a),(b.v,.s b)],rfl,h,by simp,by simp,by simp[Kid.At],by simp[Cond.cols,Kid.cols],rfl)
 | same a b=>
  obtain⟨p,rfl,h⟩:=h;show(p,_,[(a.v,.s a),(b.v,.s b)],rfl,h,by simp,by simp,by simp[Kid.At],by simp[Cond.cols,Kid.cols],rfl)
 | no c=>
  obtain⟨p,x,rfl,h,h1⟩:=h;show(p,_,[(x,.c c)],rfl,h,by simp,by simp,by simpa [Kid.At]using h1,by simp[Cond.cols,Kid.cols],rfl)
 | an c d=>
  obtain⟨p,x,y,rfl,h,h1,h2⟩:=h;show(p,_,[(x,.c c),(y,.c d)],rfl,h,by simp,by simp,by simpa [Kid.At]using (h1,h2),by simp[Cond.cols,Kid.cols],by simp[Kid.size,Cond.size])
 | or c d=>
  obtain⟨p,x,y,rfl,h,h1,h2⟩:=h;show(p,_,[(x,.c c),(y,.c d)],rfl,h,by simp,by simp,by simpa [Kid.At]using (h1,h2),by simp[Cond.cols,Kid.cols],by simp[Kid.size,Cond.size])
theorem zaO(x:V)(r:List V):z1W (x::r) (some 1) none=r:=by
 have e:HT.sIx (x::r).length 0 (some 1)=1:=by
  have e:HT.sIx (x::r).length 0 (some 1)=min 1 (r.length+1):=rfl;rw[e]
  lia
 unfold z1W;rw[e]
 change(r.take ((r.length+1)-1))=r
 rw[w1c,qf]
theorem zaR(x:V)(r:List V):¬(HT.sIx (x::r).length 0 (some 1)=0/\HT.sIx (x::r).length (x::r).length none=(x::r).length):=by
 rintro⟨h,_⟩;have e:HT.sIx (x::r).length 0 (some 1)=min 1 (r.length+1):=rfl;rw[e]at h
 lia
variable{ss:List Str}
theorem zbs{v:V}(b:kvs.map (·.1)=ss.map Sum.inr)(nd:ss.Nodup):
  ∃a:List Str,(putK kvs (Sum.inr n) v).map (·.1)=a.map Sum.inr/\a.Nodup/\∀s,s∈a↔s∈ss\/s=n:=by
 have mem:∀s,Sum.inr s∈kvs.map (·.1)↔s∈ss:=λs=>by
  rw[b];simp
 cases e:jX kvs (Sum.inr n:Key)with
 | some w=>
  have hn:n∈ss:=(mem n).mp (zea e);show(ss,?_,nd,λs=>(.inl,λh=>h.elim id λz=>z ▸ hn));unfold putK;rw[z0g,e];rw[Option.isSome_some,qd rfl,Qp,<-b];show Qy λkv u=>?_
  change(if kv.1=Sum.inr n then(kv.1,v)else kv).1=kv.1
  split<;>rfl
 | none=>
  have hn:n∉ss:=λz=>zbQ e ((mem n).mpr z)
  show(ss++[n],?_,z6K nd hn,λs=>by simp);rw[z7A v e,wF,b,wF]
  rfl
inductive spCols (K:W.Frag) (vs:List V) (H:Hp) (Q:VK) (E:XK):Prop
 | mk:∀c vc (us:List Str),vs= [vc]->zE H c vc->c.size<=1000->(∀s∈c.cols,s∈us)->us.length<=60->(∀(l:Addr) (ss:List Str) (H':Hp),zw H H'->H' l=some (.lst (ss.map V.str))->ss.Nodup->(∀s,s∈ss↔s∈c.cols)->ss.Pairwise leS->Q (.ref l) H')->spCols K vs H Q E
noncomputable def z1V(fs:List (V×Cond)):Nat:=(fs.map λi=>i.2.size).sum
theorem z5F(its:List (V×Cond))(i:V×Cond):z1V (its++[i])=z1V its+i.2.size:=by simp[z1V]
theorem z7q:∀its:List (V×Cond),its.length<=z1V its
 | []=>wA _
 | i::r=>by
  have h1:=z7q r;have h2:=i.2.size_pos;have a:z1V (i::r)=i.2.size+z1V r:=by simp[z1V]
  rw[a,wP]
  lia
theorem yR:FnScope ["condition","names","waiting","part","inner"] ["condition"] (zi z1w):=by done
theorem z5k(F:Fun K "columns_of" "columns_of" z1w f fd)(T:Txt K mg):FnOk P w K mg base CX0 1 f fd ["condition"] (spCols K):=by
 clear yR vs H Q E h F;obtain⟨c,vc,us,rfl,hc,hz,l7,AR,q⟩:=h;intro aa A outer sh hr;have hu:=z1P hr;show(_,(zc (seT 1 yR z3t)
  (zc (seT 2 yR (zC (za v0 zb)))
  (zc (z4f (z29 v2 (λW=>rfl))
   (zc (seT 3 yR (z26 wO Qz QA z2b v2))
   (zf (foR (z3I (jt z4W v3 (jI zd) jW)) (gnM 4 yR)
    (zf (zB (zX (zF zI rfl T.isinstance wI (za v4 (za (zY (v:= .ty "tuple") rfl T.tuple qZ rfl) zb))))
     (zf (j7 (apP v2 (za v4 zb))))
     (zf (zB (zX (zF zI rfl T.isinstance wI (za v4 (za (zY (v:= .ty "str") rfl T.str qP rfl) zb))))
      (zf (z6C hu v1 v4 jv rfl))
      zt))))))))
  (zf (zp (zF (z5q rfl) rfl T.sorted PyProof.Rows.boot_sorted (zP (pv 1) zb))))))),?_)
 generalize hK0:K=K1
 revert K1
 show jd #[] ?_;show λd hd=>?_
 show !((by change 1<=sizeLine;decide),λwt S=>?_);have s1:=zz hd (.dK []);have s2:=zz S (.lst [vc]);have fw:H wt=none:=s1.free S;have O:d≠wt:=zq (H:=upd H d (.dK [])) zh S;show z27 ?_;dsimp only;show z3A ?_;show yV (λm σ H'=>∃(fs:List (V×Cond)) (kvs:List (Key×V)) (ss:List Str) (o3 o4:Option V),σ= [some vc,some (.ref d),some (.ref wt),o3,o4]/\zw H H'/\H' wt=some (.lst (fs.map (·.1)))/\H' d=some (.dK kvs)/\
   kvs.map (·.1)=ss.map Sum.inr/\ss.Nodup/\(∀g∈fs,zE H g.2 g.1)/\(∀s,s∈c.cols↔s∈ss\/∃g∈fs,s∈g.2.cols)/\m=z1V fs/\m<=c.size) c.size
  ([(vc,c)],[],[],none,none,rfl,s1.trans s2,zh,s2 _ _ zh,rfl,List.nodup_nil,by simpa using hc,by simp,by simp[z1V],wA _) ?_
 rintro m σ H' ⟨fs,kvs,ss,o3,o4,rfl,sH,L,vb,hk,nd,b,mem,rfl,hm⟩;have sD:kvs.length=ss.length:=by
  have:=Qd List.length hk
  rwa [w9,w9]at this
 have vd:∀{ss:List Str},ss.Nodup->(∀s,s∈ss->s∈c.cols)->ss.length<=60:=λnd h=>wY (kf nd λx I=>l7 x (h x I)) AR
 show !(_,.inl (_,SqL.of L,rfl),?_);by_cases ai:fs= []
 .subst ai;show ifF (by rfl) ?_;have cg:∀s,s∈ss↔s∈c.cols:=λs=>by rw[mem s];simp
  have ot:=vd nd λs h=>(cg s).mp h
  show !(d,kvs,ss,rfl,vb,hk,∅,λl Z hl pm so=>?_);show q l Z _ (sH.trans (zz hl _)) zh (pm.nodup_iff.mpr nd) (λs=>by rw[pm.mem_iff];show cg s) (zaC so)
 .obtain⟨gs,g,rfl⟩:=z2p ai;show ifT (by simp) ?_;show z7B λD hN W=>?_
  obtain⟨J,e⟩:=g;rw[z5F]at hm hN;replace hm:z1V gs+e.size<=c.size:=hm;have hg:zE H e J:=b (J,e) (by simp);have ck:∀g∈gs,zE H g.2 g.1:=λg h=>b g (by simp[h])
  have e1:((gs++[Prod.mk J e]).map (·.1))=gs.map (·.1)++[J]:=by rw[wF];rfl
  rw[e1]at L;obtain⟨p,word,ks,rfl,hp,dA,Ff,AS,nF,Fg⟩:=zaW hg;show !(.inl (rfl,_,SqL.of L),wt,~~~(L,z16 _ _,?_));have eh:upd H' wt (.lst ((gs.map (·.1)++[V.ref p]).dropLast))=upd H' wt (.lst (gs.map (·.1))):=by
   rw[QI]
  rw[eh];have R:zw H (upd H' wt (.lst (gs.map (·.1)))):=sH.put fw;have h3:upd H' wt (.lst (gs.map (·.1))) wt=some (.lst (gs.map (·.1))):=zh;have d3:upd H' wt (.lst (gs.map (·.1))) d=some (.dK kvs):=by rw[zj O];show vb
  generalize upd H' wt (.lst (gs.map (·.1)))=H3 at R h3 d3 ⊢;show !(!(p,!(SqT.of (R _ _ hp),zaR _ _,λt ht=>?_)));rw[zaO];have N:=zz ht (.tup (ks.map (·.1)));have h4:=N _ _ h3;have d4:=N _ _ d3;have X:upd H3 t (.tup (ks.map (·.1))) t=some (.tup (ks.map (·.1))):=zh;generalize upd H3 t (.tup (ks.map (·.1)))=H4 at N h4 d4 X ⊢;have bJ:(ks.map (·.1)).length=ks.length:=w9 _;show(t,rfl,(_,SqT.of X),zcj (K:=K) (a:=t) (xs:=ks.map (·.1)) (λi σ H5=>∃(fs:List (V×Cond)) (kvs:List (Key×V)) (ss:List Str) (o4:Option V),σ= [some vc,some (.ref d),some (.ref wt),some (.ref p),o4]/\zw H H5/\H5 t=some (.tup (ks.map (·.1)))/\H5 wt=some (.lst (fs.map (·.1)))/\H5 d=some (.dK kvs)/\
   kvs.map (·.1)=ss.map Sum.inr/\ss.Nodup/\(∀g∈fs,zE H g.2 g.1)/\(∀s,s∈c.cols↔s∈ss\/(∃g∈fs,s∈g.2.cols)\/∃k∈ks.drop i,s∈k.2.cols)/\z1V fs+((ks.drop i).map λk=>k.2.size).sum+1=z1V gs+e.size)
   (gs,kvs,ss,o4,rfl,R.trans N,X,h4,d4,hk,nd,ck,λs=>?_,by rw[w1r];lia) (λi σ H5 _ ⟨_,_,_,_,_,_,U,_⟩=>SqT.of U) ?_ ?_)
  .rw [mem s,w1r];constructor
   .rintro(h|⟨g,hg,h⟩)
    .exact .inl h
    .rcases wE.mp hg with hg|hg
     .exact .inr (.inl (g,hg,h))
     .rw [ww.mp hg]at h;show .inr (.inr ((nF s).mp h))
   .rintro(h|⟨g,hg,h⟩|h)
    .exact .inl h
    .exact .inr (g,q5 _ hg,h)
    .exact .inr ((V.ref p,e),by simp,(nF s).mpr h)
  .rintro i x σ H5 D2 Y _ hi ⟨fs,kvs,ss,o4,rfl,B,C,o,r,hk,nd,b,mem,G⟩;have mI:i<ks.length:=by
    have:=(wg.mp hi).1
    rwa [bJ]at this
   have I:x=ks[i].1:=by
    rw[wM,we mI]at hi;show(Option.some.inj hi).symm
   have ve:ks.drop i=ks[i]::ks.drop (i+1):=List.drop_eq_getElem_cons mI;have M:=AS ks[i] (wz mI);obtain⟨⟨kv,kk⟩,AT⟩:∃k,ks[i]=k:=(_,rfl)
   rw[AT]at I M ve;replace I:kv=x:=I.symm;subst I;rw[ve]at mem G;have sD:kvs.length=ss.length:=by
    have:=Qd List.length hk
    rwa [w9,w9]at this
   have ot:=vd nd λs h=>(mem s).mpr (.inl h)
   have Fh:=z7q fs;have sE:((kv,kk)::ks.drop (i+1)).map (λk=>k.2.size)=kk.size::(ks.drop (i+1)).map (λk=>k.2.size):=rfl;rw[sE,Qj]at G;cases kk with
   | c y=>
    have u:zE H y kv:=M
    obtain⟨p2,x2,rfl,bf⟩:=u.ref;show !(_,_,_,!(TyOf.tup (B _ _ bf),jr,!?_));show z8W ?_;show !(.inl (rfl,_,SqL.of o),!(wt,~~~(o,zG (by rw[w9];lia),?_)));have tw:t≠wt:=z40 C o (by intro z;cases z);show Y _ _ (fs++[(V.ref p2,y)],kvs,ss,!(B.put fw,by rw[zj tw];show C,by rw[zh,wF];rfl,by rw[zj O];show r,hk,nd,λg hg=>?_,λs=>?_,?_))
    .rcases wE.mp hg with hg|hg
     .exact b g hg
     .rw [ww.mp hg];show u
    .rw [mem s];simp only[wL,wE,qA,QQ];constructor
     .rintro(h|⟨g,hg,h⟩|⟨k,rfl|hk,h⟩)
      .exact .inl h
      .exact .inr (.inl (g,.inl hg,h))
      .exact .inr (.inl (_,.inr rfl,h))
      .exact .inr (.inr (k,hk,h))
     .rintro(h|⟨g,hg|rfl,h⟩|⟨k,hk,h⟩)
      .exact .inl h
      .exact .inr (.inl (g,hg,h))
      .exact .inr (.inr (_,.inl rfl,h))
      .exact .inr (.inr (k,.inr hk,h))
    .rw [z5F]
     change z1V fs+y.size+_+1=_
     have:(Kid.c y).size=y.size:=rfl
     lia
   | s y=>
    cases y with
    | nm n=>
     have u:kv=V.str n:=M
     subst u;show !(_,_,_,!(TyOf.str n,z08,!?_));show z9a ?_;show !(_,_,_,!(TyOf.str n,jr,!?_));show z8W ?_;show !(!(d,!(z8B.k (k:=Sum.inr n) r (zG ∅),?_)));obtain⟨Z,br,ou,sF⟩:=zbs (n:=n) (v:=V.bl true) hk nd;have td:t≠d:=z40 C r (by intro z;cases z);have fd:H d=none:=hd;show Y _ _ (fs,_,Z,!(B.put hd,by rw[zj td];show C,by rw[zj O.symm];show o,zh,br,ou,b,λs=>?_,?_))
     .rw [mem s,sF s];simp only[wL];constructor
      .rintro(h|h|⟨k,rfl|hk,h⟩)
       .exact .inl (.inl h)
       .exact .inr (.inl h)
       .exact .inl (.inr (by simpa [Kid.cols,Side.cols]using h))
       .exact .inr (.inr (k,hk,h))
      .rintro((h|rfl)|h|⟨k,hk,h⟩)
       .exact .inl h
       .exact .inr (.inr (_,.inl rfl,by simp[Kid.cols,Side.cols]))
       .exact .inr (.inl h)
       .exact .inr (.inr (k,.inr hk,h))
     .have:(Kid.s (.nm n)).size=0:=rfl
      lia
    | nu j=>
     have u:kv=V.int j:=M
     subst u;show !(_,_,_,!(TyOf.int j,z05,!?_));show z9a ?_;show !(_,_,_,!(TyOf.int j,kh,!?_));show z9a ?_;show Y _ _ (fs,kvs,ss,!(B,C,o,r,hk,nd,b,λs=>?_,?_))
     .rw [mem s];simp only[wL];constructor
      .rintro(h|h|⟨k,rfl|hk,h⟩)
       .exact .inl h
       .exact .inr (.inl h)
       .exact absurd h (by simp[Kid.cols,Side.cols])
       .exact .inr (.inr (k,hk,h))
      .rintro(h|h|⟨k,hk,h⟩)
       .exact .inl h
       .exact .inr (.inl h)
       .exact .inr (.inr (k,.inr hk,h))
     .have:(Kid.s (.nu j)).size=0:=rfl
      lia
  .rintro σ H5 ⟨fs,kvs,ss,o4,rfl,B,C,o,r,hk,nd,b,mem,G⟩;have mJ:ks.drop (ks.map (·.1)).length= []:=by rw[bJ,List.drop_length]
   rw[mJ]at mem G;replace G:z1V fs+0+1=z1V gs+e.size:=G;show hN _ _ (z1V fs,by change z1V fs<z1V gs+e.size;lia,fs,kvs,ss,_,!(B,o,r,hk,nd,b,λs=>by rw[mem s];simp,rfl,∅))
noncomputable def joinR(rows others:List (List Int))(s t:Nat):List (List Int):=rows.flatMap λr=>(others.filter λo=>decide (r.getD s 0=o.getD t 0)).map λo=>r++o
variable{others:List (List Int)}
theorem z8f{r:List Int}(h:rows[i]? =some r):joinR (rows.take (i+1)) others s t=joinR (rows.take i) others s t++(others.filter λo=>decide (r.getD s 0=o.getD t 0)).map λo=>r++o:=by
 unfold joinR;rw[wR,h,w13];simp
inductive spJoined (K:W.Frag) (vs:List V) (H:Hp) (Q:VK) (E:XK):Prop
 | mk:∀a b rs os s t,vs= [.ref a,.ref b,.int s,.int t]->RowsAt H a rs->RowsAt H b os->0<=s->0<=t->(∀r∈rs,s.toNat<r.2.length/\r.2.length<=100)->(∀r∈os,t.toNat<r.2.length/\r.2.length<=100)->rs.length<=100->os.length<=100->(∀(p:Addr) (qs:List (Addr×List Int)) (H':Hp),zw H H'->RowsAt H' p qs->qs.map (·.2)=joinR (rs.map (·.2)) (os.map (·.2)) s.toNat t.toNat->Q (.ref p) H')->spJoined K vs H Q E
def z7m{s:Int}(h0:0<=s)(h:s.toNat<x.length):atI (x.map V.int) s=some (.int (x.getD s.toNat 0)):=z9z h0 (int_at h)
noncomputable def z0r(os:List (Addr×List Int))(t:Nat)(z:Int):List (Addr×List Int):=os.filter λo=>decide (o.2.getD t 0=z)
theorem kU:z0r (os++[o]) t z=z0r os t z++(if o.2.getD t 0=z then [o]else []):=by
 unfold z0r;rw[w0J];by_cases h:o.2.getD t 0=z
 .rw [qd h,w1v,qd (wN h)];rfl
 .rw [wW h,w1v,wW (by rw[wK h];show wU)];rfl
structure Gath(H H':Hp)(dp:Addr)(kvs:List (Key×V))(os:List (Addr×List Int))(t:Nat):Prop where
 same:zw H H'
 free:H dp=none
 dict:H' dp=some (.dK kvs)
 len:kvs.length<=os.length
 no:∀z:Int,jX kvs (.inl z)=none->z0r os t z= []
 yes:∀(z:Int) v,jX kvs (.inl z)=some v->∃p,v= .ref p/\H' p=some (.lst (refs (z0r os t z)))/\H p=none
 inj:∀(z z':Int) p,jX kvs (.inl z)=some (.ref p)->jX kvs (.inl z')=some (.ref p)->z=z'
def Gath.new(g:Gath H H' dp kvs os t)(s:zw H' H1):Gath H H1 dp kvs os t:=
 (g.same.trans s,g.free,s _ _ g.dict,g.len,g.no,λz v e=>let ⟨p,a,b,c⟩:=g.yes z v e;(p,a,s _ _ b,c),g.inj)
theorem zax{r:Addr×List Int}:refs (rs++[r])=refs rs++[V.ref r.1]:=by simp[refs]
theorem Gath.more(g:Gath H H' dp kvs os t)(e:jX kvs (.inl (o.2.getD t 0))=some (.ref p)):
  Gath H (upd H' p (.lst (refs (z0r os t (o.2.getD t 0))++[V.ref o.1]))) dp kvs (os++[o]) t:=by
 obtain⟨p',a,hp,fp⟩:=g.yes _ _ e;cases a;show(g.same.put fp,g.free,?_,by rw[wm];have:=g.len;lia,λz hz=>?_,λz v hz=>?_,g.inj)
 .rw [zj (z40 g.dict hp (by intro z;cases z))];show g.dict
 .rw [kU,g.no z hz,wW (λq=>by rw[q,hz]at e;cases e)]
  rfl
 .obtain⟨q,rfl,hq,b⟩:=g.yes z v hz;show(q,rfl,?_,b);by_cases dG:q=p
  .subst dG;have:=g.inj _ _ _ e hz;subst this;rw[zh,kU,qd rfl,zax]
  .rw [zj dG,kU,wW (λw=>by subst w;rw[e]at hz;cases hz;show dG rfl),Q3];show hq
theorem Gath.first(g:Gath H H' dp kvs os t)(e:jX kvs (.inl (o.2.getD t 0))=none)(hn:H' p=none)(h1:zw H' H1)(hp:H1 p=some (.lst [])):
  Gath H (upd (upd H1 dp (.dK (putK kvs (.inl (o.2.getD t 0)) (.ref p)))) p (.lst [V.ref o.1])) dp (putK kvs (.inl (o.2.getD t 0)) (.ref p)) (os++[o]) t:=by
 have i:dp≠p:=zq g.dict hn;have c:=g.new h1;show((c.same.put g.free).put (g.same.free hn),g.free,by rw[zj i,zh],?_,λz hz=>?_,λz v hz=>?_,λz z' q h1 h2=>?_)
 .rw [wm];have:=z0Z kvs (.inl (o.2.getD t 0)) (.ref p);have:=g.len;simp only[wJ]
  lia
 .rw [z4K]at hz;split at hz
  .cases hz
  .rename_i d;rw[kU,g.no z hz,wW (λq=>d (by rw[q]))]
   rfl
 .rw [z4K]at hz;split at hz
  .rename_i he;cases hz;have f:z=o.2.getD t 0:=Sum.inl.inj he;subst f;show(p,rfl,?_,g.same.free hn);rw[zh,kU,g.no _ e,qd rfl]
   rfl
  .rename_i d;obtain⟨q,rfl,hq,h⟩:=c.yes z v hz;obtain⟨q',a,b,_⟩:=g.yes z _ hz;cases a;show(q,rfl,?_,h);rw[zj (zq b hn),zj (z40 hq c.dict (by intro z;cases z)),kU,wW (λw=>d (by rw[w])),Q3];show hq
 .rw [z4K]at h1 h2;split at h1
  .rename_i a1;split at h2
   .rename_i a2;show Sum.inl.inj (a1.trans a2.symm)
   .cases h1;obtain⟨q',a,b,_⟩:=g.yes z' _ h2;cases a;show absurd rfl (zq b hn)
  .split at h2
   .cases h2;obtain⟨q',a,b,_⟩:=g.yes z _ h1;cases a;show absurd rfl (zq b hn)
   .exact g.inj z z' q h1 h2
theorem zaH:(z0r os t z).map (·.2)=(os.map (·.2)).filter λo=>decide (z=o.getD t 0):=by
 unfold z0r
 induction os with
 | nil=>rfl
 | cons o os a=>
  rw[qF,w1v,w1v];by_cases h:o.2.getD t 0=z
  .rw [qd (wN h),qd (wN h.symm),qF,a]
  .rw [wW (by rw[wK h];show wU),wW (by rw[wK (p:=z=o.2.getD t 0) λw=>h w.symm];show wU),a]
theorem z0E:FnScope ["rows","others","spot","place","gathered","other","found","row"] ["rows","others","spot","place"] (zi z56):=by done
theorem zb0(F:Fun K "joined" "joined" z56 f fd)(T:Txt K mg):FnOk P w K mg base CX0 1 f fd ["rows","others","spot","place"] (spJoined K):=by
 clear z0E vs H Q E h F;obtain⟨a,b,rs,os,s,t,rfl,ha,N,s0,t0,g9,eU,rT,AU,q⟩:=h;intro aa A outer sh hr;have hu:=z1P hr;show(_,(zc (seT 4 z0E z3t)
  (zc (foR (zT v1) (gnM 5 z0E)
   (zf (j7 (apP (z8w v4 (ixL v5 v3) (zC zb) (rfl,rfl,rfl,rfl)) (za v5 zb)))))
  (zc (seT 6 z0E (zC zb))
  (zc (foR (zT v0) (gnM 7 z0E)
   (zf (foR (zT (z55 hu v4 (ixL (pv 7) v2) (zC zb) (rfl,rfl,rfl,rfl))) (gnM 5 z0E)
    (zf (j7 (apP (pv 6) (yq (zo kF (pv 7) v5) zb)))))))
  (zf (zp (pv 6))))))),?_)
 generalize hK0:K=K1
 revert K1
 show jd #[] ?_;have Y:(refs rs).length=rs.length:=w9 _;have im:(refs os).length=os.length:=w9 _;have S:0<=sizeLine:=by decide
 show λdp fc=>?_
 have s1:=zz fc (.dK []);show !(b,rfl,(_,SqL.of (s1 _ _ N.1)),z1M (K:=K) (a:=b) (xs:=refs os) (λj σ H'=>∃(kvs:List (Key×V)) (o5:Option V),σ= [some (.ref a),some (.ref b),some (.int s),some (.int t),some (.ref dp),o5,none,none]/\Gath H H' dp kvs (os.take j) t.toNat)
  ([],none,rfl,s1,fc,zh,wA _,λW W=>rfl,λz v e=>(by cases e),λz z' p e=>(by cases e)) (λi σ H' _ ⟨_,_,_,g⟩=>SqL.of (g.same _ _ N.1)) ?_ ?_)
 .rintro j x σ H2 D I _ r ⟨kvs,o5,rfl,g⟩;have d:j<os.length:=by
   have:=(wg.mp r).1
   rwa [im]at this
  rw[yb d]at r;cases r;obtain⟨eY,il⟩:=eU _ (wz d);have X:=g.same _ _ (N.2 _ (wz d)).2;have tk:os.take (j+1)=os.take j++[os[j]]:=by rw[wR,we d];rfl
  have lt:(os.take j).length<=100:=by rw[wV];lia
  show !(dp,rfl,.inl (_,.inl g.dict),!(!(zv X (z7m t0 eY) (S,λnp u=>?_))));have c:=zz u (.lst []);have np1:upd H2 np (.lst []) np=some (.lst []):=zh;generalize upd H2 np (.lst [])=H3 at c np1 ⊢;have G:=g.new c;show(kvs,.inl (os[j].2.getD t.toNat 0),G.dict,rfl,zG (by have:=g.len;lia),λv n=>?_,λn=>?_)
  .obtain⟨p,rfl,hp,fp⟩:=G.yes _ _ n;show(.inl (rfl,_,SqL.of hp),!(p,~~~(hp,zG (by rw[w9];have:(z0r (os.take j) t.toNat (os[j].2.getD t.toNat 0)).length<=(os.take j).length:=qz _ _;lia),?_)));show I _ _ (kvs,!?_);rw[tk];show G.more n
  .have Z:np≠dp:=(zq g.dict u).symm;show(.inl (rfl,_,SqL.of (by rw[zj Z];show np1)),!(np,~~~(by rw[zj Z];show np1,zG (),?_)));show I _ _ (putK kvs (.inl (os[j].2.getD t.toNat 0)) (.ref np),!?_);rw[tk];show g.first n u c np1
 .rintro σ H2 ⟨kvs,o5,rfl,g⟩;rw[im,qf]at g;show(S,λfp M=>?_);have f1:=zz M (.lst []);have vf:upd H2 fp (.lst []) fp=some (.lst []):=zh;generalize upd H2 fp (.lst [])=H3 at f1 vf ⊢;have G:=g.new f1;have Fi:H fp=none:=g.same.free M;show !(a,rfl,(_,SqL.of (G.same _ _ ha.1)),z1M (K:=K) (a:=a) (xs:=refs rs) (λi σ H'=>∃(ds:List (Addr×List Int)) (o5 o7:Option V),σ= [some (.ref a),some (.ref b),some (.int s),some (.int t),some (.ref dp),o5,some (.ref fp),o7]/\zw H2 H'/\RowsAt H' fp ds/\
   ds.map (·.2)=joinR ((rs.map (·.2)).take i) (os.map (·.2)) s.toNat t.toNat/\ds.length<=i*100) ([],o5,none,rfl,f1,yE vf,rfl,wA _) (λi σ H' _ ⟨_,_,_,_,sm,_⟩=>SqL.of (sm _ _ (g.same _ _ ha.1))) ?_ ?_)
  .rintro i x σ H4 D I _ hi ⟨ds,o5,o7,rfl,O,hd,l,J⟩;have B:i<rs.length:=by
    have:=(wg.mp hi).1
    rwa [Y]at this
   rw[yb B]at hi;cases hi;obtain⟨eC,cC⟩:=g9 _ (wz B);have U:=g.new O;have R:=U.same _ _ (ha.2 _ (wz B)).2;show !(dp,rfl,.inl (_,.inl U.dict),!(!(zv R (z7m s0 eC) (S,λnp u=>?_))));have c:=zz u (.lst []);have np1:upd H4 np (.lst []) np=some (.lst []):=zh;generalize upd H4 np (.lst [])=H5 at c np1 ⊢;have g5:=U.new c;have s5:=O.trans c;have AV:=hd.same c;show(_,z4e.k (k:= .inl (rs[i].2.getD s.toNat 0)) g5.dict,?_);obtain⟨p,ep,hp,iG⟩:∃p,(jX kvs (.inl (rs[i].2.getD s.toNat 0))).getD (.ref np)= .ref p/\H5 p=some (.lst (refs (z0r os t.toNat (rs[i].2.getD s.toNat 0))))/\p≠fp:=by
    cases n:jX kvs (.inl (rs[i].2.getD s.toNat 0))with
    | none=>show(np,rfl,by rw[g.no _ n];show np1,(zq hd.1 u).symm)
    | some v=>
     obtain⟨p,rfl,hp,_⟩:=g.yes _ _ n;show(p,rfl,s5 _ _ hp,zq hp M)
   rw[ep];have L:(refs (z0r os t.toNat (rs[i].2.getD s.toNat 0))).length=(z0r os t.toNat (rs[i].2.getD s.toNat 0)).length:=w9 _;have hF:∀o∈z0r os t.toNat (rs[i].2.getD s.toNat 0),o∈os:=λo m=>(Qr.mp m).1
   have lF:(z0r os t.toNat (rs[i].2.getD s.toNat 0)).length<=100:=wY (qz _ _) AU;have eF:(z0r os t.toNat (rs[i].2.getD s.toNat 0)).map (·.2)=(os.map (·.2)).filter λo=>decide (rs[i].2.getD s.toNat 0=o.getD t.toNat 0):=zaH
   generalize z0r os t.toNat (rs[i].2.getD s.toNat 0)=fs at hp L hF lF eF ⊢;show(p,rfl,(_,SqL.of hp),z1M (K:=K) (a:=p) (xs:=refs fs) (λj σ H'=>∃(ds:List (Addr×List Int)) (o5:Option V),σ= [some (.ref a),some (.ref b),some (.int s),some (.int t),some (.ref dp),o5,some (.ref fp),some (.ref rs[i].1)]/\zw H2 H'/\H' p=some (.lst (refs fs))/\RowsAt H' fp ds/\
    ds.map (·.2)=joinR ((rs.map (·.2)).take i) (os.map (·.2)) s.toNat t.toNat++((fs.map (·.2)).take j).map (λo=>rs[i].2++o)/\ds.length<=i*100+j)
    (ds,o5,rfl,s5,hp,AV,by rw[l];simp,∅) (λj σ H' _ ⟨_,_,_,_,z,_⟩=>SqL.of z) ?_ ?_)
   .rintro j y σ H6 D2 hM _ r ⟨ds,o5,rfl,C,g7,hd,l,J⟩;have d:j<fs.length:=by
     have:=(wg.mp r).1
     rwa [L]at this
    rw[yb d]at r;cases r;have mo:=hF _ (wz d);obtain⟨eY,il⟩:=eU _ mo;have R:=C _ _ (g.same _ _ (ha.2 _ (wz B)).2);have X:=C _ _ (g.same _ _ (N.2 _ mo).2);show !(.inl (rfl,_,SqL.of hd.1),!(!(_,_,~~~(R,X,jb (by rw[w9,w9];lia),λq1 gU=>?_))));have c:=zz gU (.lst (rs[i].2.map V.int++fs[j].2.map V.int));have dz:=hd.same c;show(fp,~~~(dz.1,zG (by rw[w9];lia),?_));have nq:q1≠fp:=(zq hd.1 gU).symm;show hM _ _ (ds++[(q1,rs[i].2++fs[j].2)],!((C.trans c).put M,by rw[zj iG];show c _ _ g7,dz.push nq (by rw[zh,wF]),?_,by rw[wm,wJ];lia));rw[wF,l,wR,z1x d,wF,QE]
    rfl
   .rintro σ H6 ⟨ds,o5,rfl,C,g7,hd,l,J⟩;show I _ _ (ds,_,!(C,hd,?_,by rw[L]at J;lia));rw[l,z8f (z1x B),L,show(fs.map (·.2)).take fs.length=fs.map (·.2)from Q0 (by rw[w9];show wA _),eF]
  .rintro σ H4 ⟨ds,o5,o7,rfl,O,hd,l,J⟩;show !(q fp ds H4 (g.same.trans O) hd ?_);rw[l,Y,show(rs.map (·.2)).take rs.length=rs.map (·.2)from Q0 (by rw[w9];show wA _)]
noncomputable def z0Q(k v:Int)(m:List Int):List Int:=if m.getD 0 0=k then [m.getD 0 0,m.getD 1 0+1,m.getD 2 0+v]else m
noncomputable def z2n(acc:List (List Int))(k v:Int):List (List Int):=acc.map (z0Q k v)++(if(acc.any λm=>decide (m.getD 0 0=k))=true then []else [[k,1,v]])
noncomputable def yQ(rows:List (List Int))(s t:Nat):List (List Int):=rows.foldl (λacc r=>z2n acc (r.getD s 0) (r.getD t 0)) []
theorem z8a{r:List Int}(h:rows[i]? =some r):yQ (rows.take (i+1)) s t=z2n (yQ (rows.take i) s t) (r.getD s 0) (r.getD t 0):=by
 unfold yQ;rw[wR,h,w0X]
 rfl
inductive spGrouped (K:W.Frag) (vs:List V) (H:Hp) (Q:VK) (E:XK):Prop
 | mk:∀a rs s t,vs= [.ref a,.int s,.int t]->RowsAt H a rs->0<=s->0<=t->(∀r∈rs,s.toNat<r.2.length/\t.toNat<r.2.length/\r.2.length<=100)->rs.length<=100->(∀(p:Addr) (qs:List (Addr×List Int)) (H':Hp),zw H H'->RowsAt H' p qs->qs.map (·.2)=yQ (rs.map (·.2)) s.toNat t.toNat->Q (.ref p) H')->spGrouped K vs H Q E
theorem three{m:List Int}(h:m.length=3):m= [m.getD 0 0,m.getD 1 0,m.getD 2 0]:=by
 match m,h with
 | [x,y,z],_=>rfl
noncomputable def view(c:Nat)(acc:List (List Int)):List (Key×V):=acc.map λm=>((.inl (m.getD 0 0):Key),V.int (m.getD c 0))
theorem z3x{c:Nat}{k:Int}:jX (view c acc) (.inl k)=(acc.find? λm=>decide (m.getD 0 0=k)).map λm=>V.int (m.getD c 0):=by
 unfold jX view;rw[List.find?_map,Option.map_map];have:((λkv:Key×V=>decide (kv.1=Sum.inl k)) ∘ λm:List Int=>((.inl (m.getD 0 0):Key),V.int (m.getD c 0)))=λm=>decide (m.getD 0 0=k):=by
  funext m
  simp
 rw[this]
 rfl
theorem z5X(nd:(acc.map λm=>m.getD 0 0).Nodup){m:List Int}(h:m∈acc):acc.find? (λx=>decide (x.getD 0 0=m.getD 0 0))=some m:=by
 induction acc with
 | nil=>cases h
 | cons a r c=>
  rw[qF,w0a]at nd;rw[w0T];rcases wL.mp h with rfl|h
  .simp
  .have b:a.getD 0 0≠m.getD 0 0:=λz=>nd.1 (qx.mpr (m,h,z.symm))
   rw[wK b];show c nd.2 h
theorem zbV{k v:Int}{m:List Int}:(z0Q k v m).getD 0 0=m.getD 0 0:=by
 unfold z0Q;split<;>rfl
theorem zbb{k v:Int}(nd:(acc.map λm=>m.getD 0 0).Nodup):((z2n acc k v).map λm=>m.getD 0 0).Nodup:=by
 unfold z2n;rw[wF,Qp];have e:((λm:List Int=>m.getD 0 0) ∘ z0Q k v)=λm=>m.getD 0 0:=by
  funext m;show zbV
 rw[e];split
 .simpa using nd
 .rename_i hn;show z6K nd λhm=>hn ?_
  obtain⟨m,hm,e⟩:=qx.mp hm;show QP.mpr (m,hm,wN e)
theorem z7M{c:Nat}{k v d f:Int}(nd:(acc.map λm=>m.getD 0 0).Nodup)(hc:(c=1/\d=1)\/(c=2/\d=v))(a:(jX (view c acc) (.inl k)).getD (.int 0)= .int f):
  putK (view c acc) (.inl k) (.int (f+d))=view c (z2n acc k v):=by
 rw[z3x]at a;cases hf:acc.find? λm=>decide (m.getD 0 0=k)with
 | none=>
  rw[hf]at a;have a:V.int 0=V.int f:=a;cases a;have l:∀m∈acc,m.getD 0 0≠k:=λm hm=>by simpa using List.find?_eq_none.mp hf m hm
  have i:¬(acc.any λm=>decide (m.getD 0 0=k))=true:=λh=>by
   obtain⟨m,hm,e⟩:=QP.mp h;show l m hm (qD e)
  rw[z7A _ (by rw[z3x,hf];rfl)];unfold z2n view;rw[wW i,wF]
  congr 1
  .rw [Qp];show Qy λm hm=>?_
   change _=(Prod.mk ((.inl ((z0Q k v m).getD 0 0):Key)) (V.int ((z0Q k v m).getD c 0)))
   unfold z0Q;rw[wW (l m hm)]
  .rcases hc with⟨rfl,rfl⟩|⟨rfl,rfl⟩<;>simp
 | some b=>
  rw[hf]at a;have a:V.int (b.getD c 0)=V.int f:=a;cases a;have j:b∈acc:=List.mem_of_find?_eq_some hf;have n:b.getD 0 0=k:=by simpa using List.find?_some hf
  have i:(acc.any λm=>decide (m.getD 0 0=k))=true:=QP.mpr (b,j,wN n);have uniq:∀m∈acc,m.getD 0 0=k->m=b:=λm hm e=>by
   have:=z5X nd hm;rw[e,hf]at this;show(Option.some.inj this).symm
  unfold putK;have ha:((view c acc).any λkv=>decide (kv.1=(.inl k:Key)))=true:=by
   unfold view;rw[List.any_map];show QP.mpr (b,j,by change decide ((.inl (b.getD 0 0):Key)= .inl k)=true;rw[n];show wN rfl)
  rw[qd ha];unfold z2n view;rw[qd i,Q3,Qp,Qp];show Qy λm hm=>?_
  change(if(.inl (m.getD 0 0):Key)= .inl k then _ else _)=(Prod.mk ((.inl ((z0Q k v m).getD 0 0):Key)) (V.int ((z0Q k v m).getD c 0)))
  unfold z0Q;by_cases e:m.getD 0 0=k
  .rw [qd (by rw[e]),qd e,uniq m hm e];rcases hc with⟨rfl,rfl⟩|⟨rfl,rfl⟩<;>simp
  .rw [wW (λz=>e (Sum.inl.inj z)),wW e]
theorem zcU{k v:Int}:(z2n acc k v).length<=acc.length+1:=by
 unfold z2n;rw[wm,w9];split<;>simp
theorem z8p{k v:Int}(h:∀m∈acc,m.length=3):∀m∈z2n acc k v,m.length=3:=λm hm=>by
 unfold z2n at hm;rcases wE.mp hm with hm|hm
 .obtain⟨x,a,rfl⟩:=qx.mp hm;unfold z0Q;split
  .rfl
  .exact h x a
 .split at hm
  .cases hm
  .rw [ww.mp hm];rfl
theorem zcQ{c:Nat}{k:Int}:∃a,(jX (view c acc) (.inl k)).getD (.int 0)=V.int a:=by
 rw[z3x];cases acc.find? λm=>decide (m.getD 0 0=k)with
 | none=>show(0,rfl)
 | some m=>show(_,rfl)
theorem z0O:FnScope ["rows","spot","place","many","total","row","number"] ["rows","spot","place"] (zi z2A):=by done
theorem z8U(F:Fun K "grouped" "grouped" z2A f fd)(T:Txt K mg):FnOk P w K mg base CX0 2 f fd ["rows","spot","place"] (spGrouped K):=by
 clear z0O vs H Q E h F;obtain⟨a,rs,s,t,rfl,ha,s0,t0,g9,rT,q⟩:=h;intro aa A outer sh hr;have j:=z1P hr;show(_,(zc (yN (i:=3) z0O.nd rfl (QV rfl) z3t)
  (zc (yN (i:=4) z0O.nd rfl (QV rfl) z3t)
  (zc (foR (zT v0) (gnM 5 z0O)
   (zc (seT 6 z0O (ixL v5 v1))
   (zc (z6C j v3 (pv 6) (zo yw (z55 j v3 (pv 6) zd (rfl,rfl,rfl,rfl)) zd) rfl)
   (zf (z6C j v4 (pv 6) (zo yw (z55 j v4 (pv 6) zd (rfl,rfl,rfl,rfl)) (ixL v5 v2)) rfl)))))
  (zf (zp (jB rfl (CompSc.of (sx:=zi z2A) (NX:= ["rows","spot","place","many","total","row","number"]) (fr:= ["many","total"]) (ix:= [3,4]) rfl rfl ()) (zdZ v3) (λg g g g g g=>jh) (λg g g g g g=>(zC (za v0 (zl (z9o j v1 v0 (λg g=>rfl)) (zl (z9o j v2 v0 (λg g=>rfl)) zb))))))))))),?_)
 generalize hK0:K=K1
 revert K1
 show jd #[] ?_;have Y:(refs rs).length=rs.length:=w9 _;show λmp O=>?_
 have L:=zz O (.dK []);have N:upd H mp (.dK []) mp=some (.dK []):=zh;generalize upd H mp (.dK [])=H1 at L N ⊢;show λtp M=>?_
 have J:=zz M (.dK []);have vh:upd H1 tp (.dK []) tp=some (.dK []):=zh;have R:mp≠tp:=zq N M;have gZ:H tp=none:=L.free M;have vi:=J _ _ N;generalize upd H1 tp (.dK [])=H2 at J vh vi ⊢;have I:=L.trans J;show !(a,rfl,(_,SqL.of (I _ _ ha.1)),z1Y (K:=K) (a:=a) (xs:=refs rs) (λi σ H'=>∃(o5 o6:Option V),σ= [some (.ref a),some (.int s),some (.int t),some (.ref mp),some (.ref tp),o5,o6]/\zw H H'/\
  H' mp=some (.dK (view 1 (yQ ((rs.map (·.2)).take i) s.toNat t.toNat)))/\H' tp=some (.dK (view 2 (yQ ((rs.map (·.2)).take i) s.toNat t.toNat)))/\
  ((yQ ((rs.map (·.2)).take i) s.toNat t.toNat).map λm=>m.getD 0 0).Nodup/\(yQ ((rs.map (·.2)).take i) s.toNat t.toNat).length<=i/\∀m∈yQ ((rs.map (·.2)).take i) s.toNat t.toNat,m.length=3)
  (none,none,rfl,I,vi,vh,List.nodup_nil,wA _,λg z=>(by cases z)) (λi σ H' _ ⟨_,_,_,I,_⟩=>SqL.of (I _ _ ha.1)) ?_ ?_)
 .rintro i x σ b hi ⟨o5,o6,rfl,C,hm,ht,nd,ln,n⟩;have B:i<rs.length:=by
   have:=(wg.mp hi).1
   rwa [Y]at this
  rw[yb B]at hi;cases hi;obtain⟨eC,cC,Fj⟩:=g9 _ (wz B);have hR:=C _ _ (ha.2 _ (wz B)).2;have gt:=z8a (s:=s.toNat) (t:=t.toNat) (z1x B);generalize yQ ((rs.map (·.2)).take i) s.toNat t.toNat=acc at hm ht nd ln n gt;obtain⟨c1,X⟩:=zcQ (c:=1) (acc:=acc) (k:=rs[i].2.getD s.toNat 0);obtain⟨c2,Z⟩:=zcQ (c:=2) (acc:=acc) (k:=rs[i].2.getD s.toNat 0);have lv:∀c,(view c acc).length<sizeLine:=λc=>zG (by unfold view;rw[w9];lia)
  show !(!(zv hR (z7m s0 eC) ?_));show !(mp,rfl,.inl (_,.inl hm),!(_,z4e.k (k:= .inl (rs[i].2.getD s.toNat 0)) hm,c1,1,X,rfl,!(!(mp,!(z8B.k (k:= .inl (rs[i].2.getD s.toNat 0)) hm (lv 1),?_)))));rw[z7M nd (.inl (rfl,rfl)) X (v:=rs[i].2.getD t.toNat 0)];have u:upd b mp (.dK (view 1 (z2n acc (rs[i].2.getD s.toNat 0) (rs[i].2.getD t.toNat 0)))) mp=_:=zh;have e:upd b mp (.dK (view 1 (z2n acc (rs[i].2.getD s.toNat 0) (rs[i].2.getD t.toNat 0)))) tp=_:=(zj R.symm).trans ht;have U:zw H (upd b mp (.dK (view 1 (z2n acc (rs[i].2.getD s.toNat 0) (rs[i].2.getD t.toNat 0))))):=C.put O;generalize upd b mp (.dK (view 1 (z2n acc (rs[i].2.getD s.toNat 0) (rs[i].2.getD t.toNat 0))))=H4 at u e U ⊢;have AW:=U _ _ (ha.2 _ (wz B)).2;show !(tp,rfl,.inl (_,.inl e),!(_,z4e.k (k:= .inl (rs[i].2.getD s.toNat 0)) e,!(!(zv AW (z7m t0 cC) (c2,_,Z,rfl,!(!(tp,!(z8B.k (k:= .inl (rs[i].2.getD s.toNat 0)) e (lv 2),?_))))))));rw[z7M nd (.inr (rfl,rfl)) Z (v:=rs[i].2.getD t.toNat 0)];rw[gt];show(_,!(U.put gZ,by rw[zj R];show u,zh,zbb nd,wY zcU ∅,z8p n))
 .rintro σ b ⟨o5,o6,rfl,C,hm,ht,nd,ln,n⟩;rw[Y,show(rs.map (·.2)).take rs.length=rs.map (·.2)from Q0 (by rw[w9];show wA _)]at hm ht nd ln n;generalize ce:yQ (rs.map (·.2)) s.toNat t.toNat=acc at q hm ht nd ln n;show !(mp,!(hm,λo=>?_));have lv:(view 1 acc).length=acc.length:=by unfold view;rw[w9]
  have sf:zw H (upd b mp (.frz o (.dK (view 1 acc)))):=C.put O;have u:upd b mp (.frz o (.dK (view 1 acc))) mp=some (.frz o (.dK (view 1 acc))):=zh;have e:upd b mp (.frz o (.dK (view 1 acc))) tp=some (.dK (view 2 acc)):=(zj R.symm).trans ht;generalize upd b mp (.frz o (.dK (view 1 acc)))=H4 at sf u e ⊢;show z8S (λi ys H'=>zw H4 H'/\∃qs:List (Addr×List Int),ys=refs qs/\qs.length=i/\(∀r∈qs,H' r.1=some (.lst (r.2.map V.int)))/\qs.map (·.2)=acc.take i) (zw.refl _,[],rfl,rfl,λg z=>(by cases z),rfl) ?_ ?_ ?_
  .rintro i ys H' hi ⟨d,qs,rfl,hq,_,_⟩;show(d _ _ u,zG (by rw[w9];lia))
  .rintro i p ys H' hi ⟨d,qs,rfl,hq,G,S⟩;have D:i<acc.length:=by
    have:=(wg.mp hi).1
    lia
   have hp:p=(Prod.mk ((.inl (acc[i].getD 0 0):Key)) (V.int (acc[i].getD 1 0))):=by
    unfold view at hi;rw[wM,we D]at hi;show(Option.some.inj hi).symm
   subst hp;have v1:∀c,jX (view c acc) (.inl (acc[i].getD 0 0))=some (V.int (acc[i].getD c 0)):=λc=>by
    rw[z3x,z5X nd (wz D)]
    rfl
   have g1:z4e H' mp (.int (acc[i].getD 0 0)) (some (V.int (acc[i].getD 1 0))):= .inl (view 1 acc,.inl (acc[i].getD 0 0),.inr (o,d _ _ u),rfl,(v1 1).symm);have g2:z4e H' tp (.int (acc[i].getD 0 0)) (some (V.int (acc[i].getD 2 0))):= .inl (view 2 acc,.inl (acc[i].getD 0 0),.inl (d _ _ e),rfl,(v1 2).symm);show !(!(!(mp,!(g1,!(!(tp,!(g2,jb (by change 3<=1000000;decide),λl hl=>?_)))))));have e3:=three (n _ (wz D));have y:=zz hl (.lst [V.int (acc[i].getD 0 0),V.int (acc[i].getD 1 0),V.int (acc[i].getD 2 0)]);show(d.trans y,qs++[(l,acc[i])],by simp[refs],by rw[wm,hq];rfl,λr m=>?_,?_)
   .rcases wE.mp m with m|m
    .exact y _ _ (G r m)
    .rw [ww.mp m]
     change upd H' l _ l=some (.lst (acc[i].map V.int))
     rw[zh,e3]
     rfl
   .rw [wF,S,wR,we D]
    rfl
  .rintro ys H' ⟨d,qs,rfl,hq,G,S⟩ p hp;have y:=zz hp (.lst (refs qs));show q p qs _ ((sf.trans d).trans y) (zh,λr m=>(zq (G r m) hp,y _ _ (G r m))) ?_;rw[S,lv,qf]
def zdb(s:Nat)(rows L:List (List Int)):Prop:=∃is:List Nat,is.Perm (List.range rows.length)/\L=is.map (λi=>rows.getD i [])/\
 is.Pairwise λi j=>(rows.getD i []).getD s 0<(rows.getD j []).getD s 0\/((rows.getD i []).getD s 0=(rows.getD j []).getD s 0/\i<j)
noncomputable def z4F:Pos:=match jO z0L with
 | [.Return (some (.Call _ _ [(_,.Lambda _ _ _ p,_)] _)) _]=>p
 | _=>(0,0,0,0)
noncomputable abbrev zbX:Str:=Str.ofString "in_order" ++ ".<locals>." ++ "<lambda>"
inductive spOrder (K:W.Frag) (Tb:Addr) (vs:List V) (H:Hp) (Q:VK) (E:XK):Prop
 | mk:∀a rs s,vs= [.ref a,.int s]->RowsAt H a rs->0<=s->(∀r∈rs,s.toNat<r.2.length/\r.2.length<=100)->rs.length<=63->jN H Tb z4F zbX->(∀(p:Addr) (qs:List (Addr×List Int)) (H':Hp),Kp Tb H H'->jN H' Tb z4F zbX->RowsAt H' p qs->zdb s.toNat (rs.map (·.2)) (qs.map (·.2))->Q (.ref p) H')->spOrder K Tb vs H Q E
theorem z7U:FnScope ["rows","spot"] ["rows","spot"] (zi z0L):=by done
theorem z7d{c:Addr}(F:Fun K "in_order" "in_order" z0L f fd)(T:Txt K mg)(hc:fd.code= .ref c)(C:PySem.W.CodeHd base c Tb)(B:base.BuiltinsAt mg Tb):FnOk P w K mg base CX0 3 f fd ["rows","spot"] (spOrder K Tb):=by
 show F.okC z7U (λvs H Q E h=>?_) (λA outer s H vs Q E hr h=>?_)
 .obtain⟨a,rs,s,rfl,_⟩:=h
  rfl
 obtain⟨a,rs,s,rfl,ha,N,M,S,y,q⟩:=h;show(_,(zf (zp (z94 (T:=Tb) (c:=c) rfl hr rfl T.sorted (pv 0) hc C B (CompSc.of (x:="row") (sx:=zi z0L) (NX:= ["rows","spot"]) (fr:= ["spot"]) (ix:= [1]) rfl rfl ()) (λk k k k k=>(yz (yA (K:=K) rfl) (pv 0) (pv 1) (λk k=>rfl)))))),?_);have t:(refs rs).length=rs.length:=w9 _;have u:∀r∈rs,r.1≠Tb:=λr m=>y.ne (ha.2 r m).2 λps z=>by cases z
 show !(a,refs rs,rs.map (λr=>r.2.getD s.toNat 0),rfl,.inl ha.1,∅,by rw[w9,w9],y,λH2 e i v o=>?_,λc' H2 D is e L G pm I=>?_)
 .have b:i<rs.length:=by
   have:=(wg.mp o).1
   rwa [t]at this
  rw[yb b]at o;cases o;have d:=e _ _ (u _ (wz b)) (ha.2 _ (wz b)).2;show !(!(zv d (z7m N (M _ (wz b)).1) (?_,rfl)));rw[wn (l:=rs.map _),wM,we b]
  rfl
 .rw [t]at pm;have mem:∀i∈is,i<rs.length:=λi hi=>Qm.mp (pm.mem_iff.mp hi)
  have n:=zz G (.lst (is.map λi=>(refs rs).getD i .non));have J:(is.map λi=>(refs rs).getD i .non)=refs (is.map λi=>rs.getD i (0,[])):=by
   unfold refs;rw[Qp];show Qy λi hi=>?_
   have b:=mem i hi
   change _=V.ref (rs.getD i (0,[])).1
   rw[wn,wM,we b,wn,we b]
   rfl
  have rows:RowsAt (upd H2 D (.lst (is.map λi=>(refs rs).getD i .non))) D (is.map λi=>rs.getD i (0,[])):=by
   show(by rw[zh,J],λr m=>?_);obtain⟨i,hi,rfl⟩:=qx.mp m;have b:=mem i hi;have O:rs.getD i (0,[])=rs[i]:=by rw[wn,we b];rfl
   rw[O];have d:=e _ _ (u _ (wz b)) (ha.2 _ (wz b)).2;show(zq d G,n _ _ d)
  show q D _ _ (e.trans n.kp) (jN.same (.inr (c',L)) n) rows (is,by rw[w9];show pm,?_,?_)
  .rw [Qp];show Qy λi hi=>?_
   have b:=mem i hi
   change(rs.getD i (0,[])).2=_
   rw[z3m b,wn,we b]
   rfl
  .refine Qu.mpr λi j hi p R=>?_
   have h0:=Qu.mp I i j hi p R;have key:∀m,m<rs.length->(rs.map (λr=>r.2.getD s.toNat 0)).getD m 0=((rs.map (·.2)).getD m []).getD s.toNat 0:=λm hm=>by
    rw[z3m hm,wn,wM,we hm]
    rfl
   unfold Rk at h0;dsimp only at h0;rw[key _ (mem _ (wz hi)),key _ (mem _ (wz p))]at h0;show h0
theorem zcy{n:Nat}(h:n<=9000000):n<=sizeLine:=by
 have:sizeLine=16777216:=Qq
 lia
theorem z3y{n:Nat}(h:n<=9000000):n<sizeLine:=by
 have:sizeLine=16777216:=Qq
 lia
noncomputable def kids:Qn->List Qn
 | .table _=> []
 | .pick _ q | .cols _ q | .first _ q | .group _ _ _ _ q | .sort _ q=> [q]
 | .pair q r | .join _ _ q r | .both q r=> [q,r]
noncomputable def post:Qn->List Qn
 | .table n=> [.table n]
 | .pick c q=>post q++[.pick c q]
 | .cols ns q=>post q++[.cols ns q]
 | .pair q r=>post q++post r++[.pair q r]
 | .join a b q r=>post q++post r++[.join a b q r]
 | .both q r=>post q++post r++[.both q r]
 | .first n q=>post q++[.first n q]
 | .group a b n s q=>post q++[.group a b n s q]
 | .sort a q=>post q++[.sort a q]
theorem z0H(q:Qn):post q=(kids q).flatMap post++[q]:=by cases q<;>simp[post,kids]
theorem zaV(q:Qn):q∈post q:=by rw[z0H];show wC _ (ww.mpr rfl)
theorem z7P{P:Qn->Prop}(hp:∀q,P q->∀k∈kids q,P k)(q:Qn)(h:P q):∀r∈post q,P r:=by
 induction q with
 | table n=>intro r m;rw[ww.mp m];show h
 | pair q s i j|join _ _ q s i j|both q s i j=>
  intro r m;rcases wE.mp m with m|m
  .exact(wE.mp m).elim (i (hp _ h _ (.head _)) r) (j (hp _ h _ (.tail _ (.head _))) r)
  .rw [ww.mp m];show h
 | pick _ q i|cols _ q i|first _ q i|group _ _ _ _ q i|sort _ q i=>
  intro r m;rcases wE.mp m with m|m
  .exact i (hp _ h _ (.head _)) r m
  .rw [ww.mp m];show h
theorem zbx(q:Qn):1<=(post q).length:=by rw[z0H,wm];simp
def yt(H:Hp):List Qn->List V->Prop
 | [],vs=>vs= []
 | q::qs,vs=>∃v ws,vs=v::ws/\QAt H q v/\yt H qs ws
theorem yt.same(e:zw H H'):∀{qs:List Qn} {vs:List V},yt H qs vs->yt H' qs vs
 | [],_,h=>h
 | _::_,_,(v,ws,a,h1,h2)=>(v,ws,a,h1.same e,h2.same e)
def yt.mono(t:∀b xs,H b=some (.tup xs)->H' b=some (.tup xs)):∀{qs:List Qn} {vs:List V},yt H qs vs->yt H' qs vs
 | [],_,h=>h
 | _::_,_,(v,ws,a,h1,h2)=>(v,ws,a,h1.mono t,h2.mono t)
theorem yt.len:∀{qs:List Qn} {vs:List V},yt H qs vs->vs.length=qs.length
 | [],_,h=>by rw[show _= []from h];rfl
 | _::qs,_,(v,ws,a,h1,h2)=>by rw[a,wP,wP,h2.len]
theorem yt.app:∀{qs rs:List Qn} {vs ws:List V},yt H qs vs->yt H rs ws->yt H (qs++rs) (vs++ws)
 | [],_,_,_,h,g=>by rw[show _= []from h];show g
 | _::_,_,_,_,(v,us,a,h1,h2),g=>(v,us++_,by rw[a];rfl,h1,h2.app g)
theorem yt.rev:∀{qs:List Qn} {vs:List V},yt H qs vs->yt H qs.reverse vs.reverse
 | [],_,h=>by rw[show _= []from h];rfl
 | q::qs,_,(v,us,a,h1,h2)=>by
  rw[a,w05,w05];show h2.rev.app (v,[],rfl,h1,rfl)
theorem yt.at:∀{qs:List Qn} {vs:List V} {i:Nat} {q:Qn},yt H qs vs->qs[i]? =some q->∃v,vs[i]? =some v/\QAt H q v
 | q::qs,_,0,_,(v,us,a,h1,h2),e=>by cases e;show(v,by rw[a];rfl,h1)
 | q::qs,_,i+1,_,(v,us,a,h1,h2),e=>by
  obtain⟨u,b,z⟩:=h2.at (i:=i) (by simpa using e);show(u,by rw[a];simpa using b,z)
theorem yt.at':∀{qs:List Qn} {vs:List V} {i:Nat} {v:V},yt H qs vs->vs[i]? =some v->∃q,qs[i]? =some q/\QAt H q v
 | [],_,i,v,h,e=>by rw[show _= []from h]at e;cases e
 | q::qs,_,0,_,(v,us,a,h1,h2),e=>by rw[a]at e;cases e;show(q,rfl,h1)
 | q::qs,_,i+1,_,(v,us,a,h1,h2),e=>by
  rw[a]at e;obtain⟨u,b,z⟩:=h2.at' (i:=i) (by simpa using e);show(u,by simpa using b,z)
inductive spWithin (K:W.Frag) (vs:List V) (H:Hp) (Q:VK) (E:XK):Prop
 | mk:∀v q,vs= [v]->QAt H q v->(∀(l:Addr) (kv:List V) (H':Hp),zw H H'->H l=none->H' l=some (.lst kv)->yt H' (kids q) kv->Q (.ref l) H')->spWithin K vs H Q E
noncomputable def zgz:List V:= [.str "pair",.str "join",.str "both"]
theorem zcN{v:V}(h:QAt H q v):(∃n p,q= .table n/\v= .ref p/\H p=some (.tup [.str "table",.str n]))\/
  (∃r p w xs y,kids q= [r]/\v= .ref p/\H p=some (.tup (.str w::(xs++[y])))/\QAt H r y/\inV (.str w) zgz=false/\w≠"table")\/
  (∃r s p w xs x y,kids q= [r,s]/\v= .ref p/\H p=some (.tup (.str w::(xs++[x,y])))/\QAt H r x/\QAt H s y/\inV (.str w) zgz=true/\w≠"table"):=by
 cases q with
 | table n=>obtain⟨p,e,h⟩:=h;show .inl (n,p,rfl,e,h)
 | pick c r=>obtain⟨p,x,y,e,h,_,h2⟩:=h;show .inr (.inl (r,p,"pick",[x],y,rfl,e,h,h2,(),()))
 | cols ns r=>obtain⟨p,x,y,e,h,_,h2⟩:=h;show .inr (.inl (r,p,"cols",[.ref x],y,rfl,e,h,h2,(),()))
 | pair r s=>obtain⟨p,x,y,e,h,h1,h2⟩:=h;show .inr (.inr (r,s,p,"pair",[],x,y,rfl,e,h,h1,h2,(),()))
 | join a b r s=>obtain⟨p,x,y,e,h,h1,h2⟩:=h;show .inr (.inr (r,s,p,"join",[.str a,.str b],x,y,rfl,e,h,h1,h2,(),()))
 | both r s=>obtain⟨p,x,y,e,h,h1,h2⟩:=h;show .inr (.inr (r,s,p,"both",[],x,y,rfl,e,h,h1,h2,(),()))
 | first n r=>obtain⟨p,y,e,h,h2⟩:=h;show .inr (.inl (r,p,"first",[.int n],y,rfl,e,h,h2,(),()))
 | group a b n s r=>obtain⟨p,y,e,h,h2⟩:=h;show .inr (.inl (r,p,"group",[.str a,.str b,.str n,.str s],y,rfl,e,h,h2,(),()))
 | sort a r=>obtain⟨p,y,e,h,h2⟩:=h;show .inr (.inl (r,p,"sort",[.str a],y,rfl,e,h,h2,(),()))
def zcY(v:V)(xs:List V)(y:V):atI (v::(xs++[y])) (-1)=some y:=zcp (v::xs) y
theorem zfi(v:V)(xs:List V)(x y:V):atI (v::(xs++[x,y])) (-2)=some x:=by
 have e:v::(xs++[x,y])=(v::xs)++[x,y]:=rfl;rw[e];generalize v::xs=l;unfold atI ixN;rw[wW (),qd (by rw[wm];simp;lia)];have h1:((((l++[x,y]).length:Nat):Int)+(-2)).toNat=l.length:=by rw[wm];simp;lia
 simp only[Option.bind_some]
 first|rw[h1]|(rw[show((-2:Int)+(((l++[x,y]).length:Nat):Int)).toNat=l.length by rw[wm];simp;lia])
 simp
theorem z32:FnScope ["question"] ["question"] (zi ky):=by done
theorem z31(F:Fun K "straight_within" "straight_within" ky f fd)(T:Txt K mg)(R:TxtP K mg):FnOk P w K mg base CX0 1 f fd ["question"] (spWithin K):=by
 clear z32 vs H Q E h F;obtain⟨v,q,rfl,hq,fin⟩:=h;obtain⟨a,c,b⟩:=R.two;intro aa A outer d hr;show(_,(zc (zB (cmT zO (ixT v0 zd) zn)
   (zf (zp (zC zb)))
   zt)
  (zc (zB (z01 kR (ixT v0 zd) (za8 (v:= .ref a) rfl c rfl) (by with_unfolding_all rfl))
   (zf (zp (zC (zl (ixT v0 (z69 z3U zd)) (zl (ixT v0 (z69 z3U zd)) zb)))))
   zt)
  (zf (zp (zC (zl (ixT v0 (z69 z3U zd)) zb)))))),?_)
 generalize hK0:K=K1
 revert K1
 show jd #[] ?_;have l0:∀n:Nat,n<=10->n<=sizeLine:=λn h=>jb ∅
 rcases zcN hq with⟨n,p,rfl,rfl,hp⟩|⟨r,p,w,xs,y,hk,rfl,hp,hy,aV,hw⟩|⟨r,s,p,w,xs,x,y,hk,rfl,hp,hx,hy,aV,hw⟩
 .refine !(zg hp zH (rfl,!?_));show ifT (by rw[j6];decide) ?_;show(l0 0 (),λl hl=>?_);clear l hl H1 n1 x1 l;show fin l _ H1 n1 hl x1 rfl
 .refine !(zg hp zH (rfl,!?_));show ifF (by rw[j6];show wK hw) ?_;show !(zg hp zH (a,!(.inr (b H),rfl,rfl,!?_)));show ifF aV ?_;show !(!(zg hp (zcY _ _ _) (l0 1 (),λl hl=>?_)));clear l hl H1 n1 x1 l;show fin l _ H1 n1 hl x1 (by rw[hk];show(y,[],rfl,hy.same n1,rfl))
 .refine !(zg hp zH (rfl,!?_));show ifF (by rw[j6];show wK hw) ?_;show !(zg hp zH (a,!(.inr (b H),rfl,rfl,!?_)));show ifT aV ?_;show !(!(zg hp (zfi _ _ _ _) (!(!(zg hp (by have:=zcY (.str w) (xs++[x]) y;rwa [QE]at this) (l0 2 (),λl hl=>?_))))));clear l hl H1 n1 x1 l;show fin l _ H1 n1 hl x1 (by rw[hk];show(x,[y],rfl,hx.same n1,y,[],rfl,hy.same n1,rfl))
theorem z1A{l:Addr}{o:HO}(h:H l=some (.lst xs)):∀b ys,H b=some (.tup ys)->upd H l o b=some (.tup ys):=λb ys e=>by
 rw[zj (z40 e h (by intro z;cases z))];show e
noncomputable abbrev pre(r:Qn):List Qn:=(post r).reverse
theorem zcc(r:Qn):pre r=r::(kids r).reverse.flatMap pre:=by
 unfold pre;rw[z0H,List.reverse_append,List.reverse_flatMap]
 rfl
noncomputable def wtL(ws:List Qn):Nat:=(ws.map λr=>(post r).length).sum
theorem zac(a b:List Qn):wtL (a++b)=wtL a+wtL b:=by unfold wtL;rw[wF,w0Z]
theorem z6t:∀ws:List Qn,ws.length<=wtL ws
 | []=>wA _
 | q::ws=>by
  have:=z6t ws;have:=zbx q
  change ws.length+1<=(post q).length+wtL ws
  lia
theorem z9A:∀ws:List Qn,(ws.reverse.flatMap pre).length=wtL ws
 | []=>rfl
 | q::ws=>by
  rw[w05,w13,wm,z9A ws]
  change wtL ws+(pre q++[]).length=(post q).length+wtL ws
  rw[Q3,w0A,Nat.add_comm]
theorem zbk(r:Qn):(post r).length=wtL (kids r)+1:=by
 rw[z0H,wm,List.length_flatMap]
 rfl
theorem yt.snoc:∀{qs:List Qn} {vs:List V},yt H qs vs->vs≠ []->∃gs g ws v,qs=gs++[g]/\vs=ws++[v]/\yt H gs ws/\QAt H g v
 | [],_,h,n=>absurd h n
 | [q],_,(v,us,a,h1,h2),_=>([],q,[],v,rfl,by rw[a,show us= []from h2];rfl,rfl,h1)
 | q::r::qs,_,(v,us,a,h1,h2),_=>by
  obtain⟨gs,g,ws,v',c,d,b,e⟩:=h2.snoc (by intro z;have:=h2.len;rw[z]at this;cases this);show(q::gs,g,v::ws,v',by rw[c];rfl,by rw[a,d];rfl,(v,ws,rfl,h1,b),e)
inductive spInner (K:W.Frag) (vs:List V) (H:Hp) (Q:VK) (E:XK):Prop
 | mk:∀v q,vs= [v]->QAt H q v->(post q).length<=8000000->(∀(l:Addr) (kv:List V) (H':Hp),zw H H'->H l=none->H' l=some (.lst kv)->yt H' (post q) kv->Q (.ref l) H')->spInner K vs H Q E
theorem kI:FnScope ["question","places","waiting","place"] ["question"] (zi z18):=by done
theorem z5g(F:Fun K "inner_first" "inner_first" z18 f fd)(T:Txt K mg)(a:Kn P w K mg base 1 "straight_within" ["question"] (spWithin K)):FnOk P w K mg base CX0 2 f fd ["question"] (spInner K):=by
 clear kI vs H Q E h F;obtain⟨v,q,rfl,hq,hsz,fin⟩:=h;intro aa A outer sh hr;show(_,(zc (seT 1 kI (zC zb))
  (zc (seT 2 kI (zC (za v0 zb)))
  (zc (z4f (z29 v2 (λk=>rfl))
   (zc (seT 3 kI (z26 wO Qz QA z2b v2))
   (zc (j7 (apP v1 (za v3 zb)))
   (zf (j7 (kg wO PySem.F.slot_list_extend PySem.F.type_list_extend z5H v2 (zK (zS a hr.m (za v3 zb)) zb)))))))
  (zf (zp (z8x rfl rfl T.list rfl T.reversed v1)))))),?_)
 generalize hK0:K=K1
 revert K1
 show jd #[] ?_;clear pp rM H1 n1 x1;show !((yG rfl),λb B=>?_);have y:pp≠b:=zq x1 B;have R:H b=none:=n1.free B;clear b B H2 n2 x2 b;have s2:=n1.trans n2;show z27 ?_;dsimp only;show z3A ?_;show yV (λm σ H'=>∃(ps ws:List Qn) (pv wv:List V) (o3:Option V),m=wtL ws/\σ= [some v,some (.ref pp),some (.ref b),o3]/\zw H H'/\H' pp=some (.lst pv)/\H' b=some (.lst wv)/\yt H' ps pv/\yt H' ws wv/\ps++ws.reverse.flatMap pre=pre q) (wtL [q])
  ([],[q],[],[v],none,rfl,rfl,s2,n2 _ _ x1,x2,rfl,(v,[],rfl,hq.same s2,rfl),by simp) ?_
 rintro m σ i ⟨ps,ws,pv,wv,o3,rfl,rfl,t,U,s,M,G,n⟩;have hlen:ps.length+wtL ws=(post q).length:=by
  have:=Qd List.length n;rw[wm,z9A,w0A]at this;show this
 show !(_,.inl (_,SqL.of s,rfl),?_);by_cases ai:wv= []
 .subst ai;show ifF (by rfl) ?_;have p:ws= []:=w01.mp G.len.symm;subst p;have ep:ps=pre q:=by simpa using n
  show !(pp,!(SqL.of U,λl hl=>?_));clear l hl H4 n4 x4 l;show fin l _ H4 (t.trans n4) (t.free hl) x4 ?_;have:=(M.same n4).rev;rw[ep,List.reverse_reverse]at this;show this
 .obtain⟨gs,g,us,c,rfl,rfl,qg,hg⟩:=G.snoc ai;show ifT (by simp) ?_;show(_,λσ' H' z=>z,?_);show !(.inl (rfl,_,SqL.of s),b,_,c,rfl,rfl,s,z16 _ _,?_);rw[QI];have j:=z1A (o:= .lst us) s;have N:zw H (upd i b (.lst us)):=t.put R;have r:upd i b (.lst us) pp=some (.lst pv):=(zj y).trans U;have S:upd i b (.lst us) b=some (.lst us):=zh;have C:=M.mono j;have u:=qg.mono j;have x:=hg.mono j;generalize upd i b (.lst us)=H4 at j N r S C u x ⊢;have p:wtL (gs++[g])=wtL gs+(post g).length:=by rw[zac];rfl
  rw[p]at hlen;have lp:=C.len;have lg:=u.len;have lw:=z6t gs;have lk:=z6t (kids g);have AY:=zbk g;show !(.inl (rfl,_,SqL.of r),!(pp,~~~(r,z3y ∅,?_)));have e:=z1A (o:= .lst (pv++[c])) r;have s5:zw H (upd H4 pp (.lst (pv++[c]))):=N.put rM;have X:upd H4 pp (.lst (pv++[c])) pp=some (.lst (pv++[c])):=zh;have D:upd H4 pp (.lst (pv++[c])) b=some (.lst us):=(zj y.symm).trans S;have Y:yt (upd H4 pp (.lst (pv++[c]))) (ps++[g]) (pv++[c]):=(C.mono e).app (c,[],rfl,x.mono e,rfl);have Z:=u.mono e;have L:=x.mono e;generalize upd H4 pp (.lst (pv++[c]))=H5 at s5 X D Y Z L ⊢;show !(.inl (rfl,_,SqL.of D),!(_,g,rfl,L,λl kv H6 d fl x6 I=>?_));have O:=d _ _ D;have vt:=I.len;show(b,l,~~~(O,x6,zcy ∅,?_));have J:=z1A (o:= .lst (us++kv)) O;show(wtL (gs++kids g),by rw[p,zac];lia,ps++[g],gs++kids g,pv++[c],us++kv,!(rfl,(s5.trans d).put R,by rw[zj y];show d _ _ X,zh,(Y.same d).mono J,((Z.same d).app I).mono J,?_));rw[List.reverse_append]at n;rw[List.reverse_append,w13,<-n]
  change ps++[g]++_=ps++([g]++gs.reverse).flatMap pre
  rw[w13,QU,zcc g];simp
def Nt(H H':Hp):Prop:=∀b o,H b=some o->(∀ps,o≠ .tbl ps)->H' b=some o
def Nt.refl(H:Hp):Nt H H:=λv v e v=>e
theorem Nt.trans(a:Nt H H1)(b:Nt H1 H2):Nt H H2:=λx o e n=>b x o (a x o e n) n
def Nt.of(h:zw H H'):Nt H H':=λb o e v=>h b o e
theorem Nt.lst{H H':Hp}{b:Addr}{xs:List V}(h:Nt H H')(e:H b=some (.lst xs)):H' b=some (.lst xs):=h b _ e λv z=>by cases z
theorem Nt.tup{H H':Hp}{b:Addr}{xs:List V}(h:Nt H H')(e:H b=some (.tup xs)):H' b=some (.tup xs):=h b _ e λv z=>by cases z
theorem z1r{a b:HO}:upd (upd H d a) d b=upd H d b:=by
 funext x
 by_cases e:x=d
 .subst e;rw[zh,zh]
 .rw [zj e,zj e,zj e]
theorem z7y{c:Addr}{a b:HO}(n:c≠d):upd (upd H d a) c b=upd (upd H c b) d a:=by
 funext x
 by_cases e:x=d
 .subst e;rw[zj n.symm,zh,zh]
 .rw [zj (H:=upd H c b) e];by_cases e2:x=c
  .subst e2;rw[zh,zh]
  .rw [zj e2,zj e2,zj e]
theorem zcH{o:HO}(h:H d=some o):upd H d o=H:=by
 funext x
 by_cases e:x=d
 .subst e;rw[zh,h]
 .rw [zj e]
theorem z7H(h:zw H H2)(hd:H d=none):zw H (hid H2 d):=λb o e=>by
 rw[jq (λz=>by rw[z,hd]at e;cases e)];show h b o e
theorem z9h{o:HO}(h:H d=some o):upd (hid H d) d o=H:=by
 funext x
 by_cases e:x=d
 .subst e;rw[zh,h]
 .rw [zj e,jq e]
def z0c(Res:Qn->V->Hp->Prop)(H:Hp):List Qn->List V->Prop
 | [],vs=>vs= []
 | q::qs,vs=>∃v ws,vs=v::ws/\Res q v H/\z0c Res H qs ws
section
variable{Res:Qn->V->Hp->Prop}
theorem z0c.imp(h:∀r u,Res r u H->Res r u H'):∀{qs:List Qn} {vs:List V},z0c Res H qs vs->z0c Res H' qs vs
 | [],_,z=>z
 | _::_,_,(v,ws,a,h1,h2)=>(v,ws,a,h _ _ h1,h2.imp h)
theorem z0c.len:∀{qs:List Qn} {vs:List V},z0c Res H qs vs->vs.length=qs.length
 | [],_,h=>by rw[show _= []from h];rfl
 | _::qs,_,(v,ws,a,h1,h2)=>by rw[a,wP,wP,h2.len]
theorem z0c.app:∀{qs rs:List Qn} {vs ws:List V},z0c Res H qs vs->z0c Res H rs ws->z0c Res H (qs++rs) (vs++ws)
 | [],_,_,_,h,g=>by rw[show _= []from h];show g
 | _::_,_,_,_,(v,us,a,h1,h2),g=>(v,us++_,by rw[a];rfl,h1,h2.app g)
theorem z0c.cut:∀{qs rs:List Qn} {vs ws:List V},z0c Res H (qs++rs) (vs++ws)->vs.length=qs.length->z0c Res H qs vs/\z0c Res H rs ws
 | [],_,vs,_,h,e=>by
  have:vs= []:=w01.mp e;subst this;show(rfl,h)
 | _::_,_,[],_,_,e=>by cases e
 | q::qs,rs,v::vs,ws,(u,us,c,h1,h2),e=>by
  obtain⟨rfl,rfl⟩:=List.cons.inj c;obtain⟨a,b⟩:=h2.cut (by simpa using e);show((v,vs,rfl,h1,a),b)
end
inductive Runs:List Qn->List Qn->List Qn->Prop
 | nil (S:List Qn):Runs S [] S
 | cons {S:List Qn} {r:Qn} {l S':List Qn}:Runs (S++[r]) l S'->Runs (S++kids r) (r::l) S'
variable{l:List Qn}
theorem Runs.app{c d b a:List Qn}(h:Runs c l d)(g:Runs d b a):Runs c (l++b) a:=by
 induction h with
 | nil S=>show g
 | cons h e=>show .cons (e g)
theorem jR:∀(q:Qn) (S:List Qn),Runs S (post q) (S++[q])
 | .table n,S=>by have:=Runs.cons (S:=S) (r:= .table n) (.nil (S++[.table n]));simpa [kids,post]using this
 | .pick c q,S=>(jR q S).app (.cons (r:= .pick c q) (.nil _))
 | .cols ns q,S=>(jR q S).app (.cons (r:= .cols ns q) (.nil _))
 | .pair q r,S=>((jR q S).app (jR r _)).app (by rw[QE];show .cons (r:= .pair q r) (.nil _))
 | .join a b q r,S=>((jR q S).app (jR r _)).app (by rw[QE];show .cons (r:= .join a b q r) (.nil _))
 | .both q r,S=>((jR q S).app (jR r _)).app (by rw[QE];show .cons (r:= .both q r) (.nil _))
 | .first n q,S=>(jR q S).app (.cons (r:= .first n q) (.nil _))
 | .group a b n s q,S=>(jR q S).app (.cons (r:= .group a b n s q) (.nil _))
 | .sort a q,S=>(jR q S).app (.cons (r:= .sort a q) (.nil _))
theorem Runs.inv{S S':List Qn}(h:Runs S (r::l) S'):∃a,S=a++kids r/\Runs (a++[r]) l S':=by
 cases h with
 | cons h=>show !h
def z4x(P:Program)(w:World)(K:W.Frag)(mg:Str->Option Value)(base:Heap)(k:Nat):SpS:=λouter s vs H Q E=>∃(v:V) (q:Qn) (lf:Addr) (a:Sp) (Ok:Hp->Prop) (Res:Qn->V->Hp->Prop),
 vs= [v,.ref lf]/\QAt H q v/\(post q).length<=8000000/\WorkOk P w K mg base CX0 k (frs outer) H s lf a/\Ok H/\(∀H1 H2,zw H1 H2->Ok H1->Ok H2)/\(∀r u H1 H2,Nt H1 H2->Res r u H1->Res r u H2)/\
 (∀r∈post q,∀(c:V) (wl:Addr) (ws:List V) (H1:Hp) (b:VK),Nt H H1->Ok H1->QAt H1 r c->H1 wl=some (.lst ws)->z0c Res H1 (kids r) ws->(∀v' H2,Nt H1 H2->Ok H2->Res r v' H2->b v' H2)->a [c,.ref wl] H1 b E0)/\
 ∀v' H',Nt H H'->Ok H'->Res q v' H'->Q v' H'
theorem z0d:FnScope ["question","work","done","place","within","inner"] ["question","work"] (zi z2R):=by done
theorem z7E{k:Nat}(dA:2<=k)(F:Fun K "built_up" "built_up" z2R f fd)(T:Txt K mg)(c:Kn P w K mg base 2 "inner_first" ["question"] (spInner K))(a:Kn P w K mg base 1 "straight_within" ["question"] (spWithin K)):FnOkS P w K mg base CX0 (k+1) f fd ["question","work"] (z4x P w K mg base k):=by
 show F.okS0 z0d (λouter s vs H Q E h=>?_) (λaa A outer s H vs Q E hr h=>?_)
 .obtain⟨v,q,lf,oE,Ok,Res,rfl,_⟩:=h
  rfl
 obtain⟨v,q,lf,oE,Ok,Res,rfl,hq,hsz,W,mK,okS,resN,work,fin⟩:=h;show(_,(zc (seT 2 z0d (zC zb))
  (zc (foR (zT (zS c hr.m (za v0 zb))) (gnM 3 z0d)
   (zc (seT 4 z0d (zC zb))
   (zc (foR (zT (zS a hr.m (za v3 zb))) (gnM 5 z0d)
    (zf (j7 (kg wO PySem.F.slot_list_insert PySem.F.type_list_insert zbe v4 (zr zd (zK (z26 wO Qz QA z2b v2) zb))))))
   (zf (j7 (apP v2 (zK (zb9 (i:=1) W z2N rfl hr rfl (w0g rfl) (za (pv 3) (za (pv 4) zb))) zb)))))))
  (zf (zp (ixL v2 zd))))),?_)
 generalize hK0:K=K1
 revert K1
 show jd #[] ?_;show((yG rfl),λdn mJ=>?_);show !(v,q,rfl,hq.mono λb xs e=>by rw[zj (zq e mJ)];show e,hsz,λl kv H2 n2 fl x2 B=>?_);have s1:zw H (upd H dn (.lst [])):=zz mJ _;have d2:H2 dn=some (.lst []):=n2 _ _ zh;have vw:l≠dn:=λz=>by rw[z,zh]at fl;cases fl
 have g2:zw H (hid H2 dn):=z7H (s1.trans n2) mJ;have bx:hid H2 dn l=some (.lst kv):=(jq vw).trans x2;have AZ:∀b xs,H2 b=some (.tup xs)->hid H2 dn b=some (.tup xs):=λb xs e=>by rw[jq (z40 e d2 (by intro z;cases z))];show e
 have vt:=B.len;show(l,rfl,(_,SqL.of x2),z1M (xs:=kv) (λi σ H'=>∃(G:Hp) (S:List Qn) (ds:List V) (o3 o4 o5:Option V),σ= [some v,some (.ref lf),some (.ref dn),o3,o4,o5]/\H'=upd G dn (.lst ds)/\G dn=none/\Nt H G/\Ok G/\G l=some (.lst kv)/\yt G (post q) kv/\z0c Res G S ds/\Runs S ((post q).drop i) [q]/\S.length<=i)
  (hid H2 dn,[],[],none,none,none,rfl,(z9h d2).symm,yD,Nt.of g2,okS _ _ g2 mK,bx,B.mono AZ,rfl,by have:=jR q [];simpa using this,wA _) ?_ ?_ ?_)
 .rintro i σ H' _ ⟨G,S,ds,o3,o4,o5,rfl,rfl,L,nt,N,gl,_⟩;show SqL.of (by rw[zj vw];show gl)
 .rintro i O σ H' D hN _ hi ⟨G,S,ds,o3,o4,o5,rfl,rfl,L,nt,N,gl,R,rs,run,hS⟩;obtain⟨r,bR,gb⟩:=R.at' hi;have mI:i<(post q).length:=(wg.mp bR).1;have ac:(post q)[i]=r:=(wg.mp bR).2;rw[List.drop_eq_getElem_cons mI,ac]at run;obtain⟨U,rfl,run'⟩:=run.inv;have cg:r∈post q:=qN bR;show((yG rfl),λwl I=>?_);have p:wl≠dn:=λz=>by rw[z,zh]at I;cases I
  have gw:G wl=none:=by rw[zj p]at I;show I
  rw[z7y p];have Y:zw G (upd G wl (.lst [])):=zz gw _;have w1:upd G wl (.lst []) wl=some (.lst []):=zh;have d1:upd G wl (.lst []) dn=none:=by rw[zj p.symm];show L
  generalize upd G wl (.lst [])=G1 at Y w1 d1 ⊢;have sP:QAt (upd G1 dn (.lst ds)) r O:=(gb.same Y).mono λb xs e=>by rw[zj (zq e d1)];show e
  show !(O,r,rfl,sP,λsl kk H4 n4 n x4 qk=>?_);have d4:H4 dn=some (.lst ds):=n4 _ _ zh;have sQ:sl≠dn:=λz=>by rw[z,zh]at n;cases n
  have e4:upd (hid H4 dn) dn (.lst ds)=H4:=z9h d4;have M:zw G1 (hid H4 dn):=z7H ((zz d1 _).trans n4) d1;have Z:hid H4 dn sl=some (.lst kk):=(jq sQ).trans x4;have vz:hid H4 dn dn=none:=yD;rw[<-e4];generalize hid H4 dn=G4 at M Z vz ⊢;have w4:=M _ _ w1;have B0:sl≠wl:=λz=>by
   have:=M _ _ w1;rw[z,zj p,w1]at n;cases n
  have AY:=qk.len;have md:=rs.len;rw[wm]at md hS;have hlen:ds.length=U.length+(kids r).length:=md;show(sl,rfl,(_,SqL.of (by rw[zj sQ];show Z)),z1M (xs:=kk) (λj σ H'=>∃(d ws:List V) (o5:Option V),σ= [some v,some (.ref lf),some (.ref dn),some O,some (.ref wl),o5]/\H'=upd (upd G4 wl (.lst ws)) dn (.lst d)/\ds=d++ws/\ws.length=j)
   (ds,[],o5,rfl,by rw[zcH w4],by simp,rfl) ?_ ?_ ?_)
  .rintro j σ H' _ ⟨d,ws,o5,rfl,rfl,_⟩;show SqL.of (by rw[zj sQ,zj B0];show Z)
  .rintro j kx σ H' D2 hM _ hj ⟨d,ws,o5,rfl,rfl,C,X⟩;have Fk:j<kk.length:=(wg.mp hj).1;have ai:d≠ []:=λz=>by
    have:=Qd List.length C;rw[z,List.nil_append,hlen,X]at this
    lia
   obtain⟨gs,g,rfl⟩:=z2p ai;have x:upd (upd G4 wl (.lst ws)) dn (.lst (gs++[g])) dn=some (.lst (gs++[g])):=zh;have B2:upd (upd G4 wl (.lst ws)) dn (.lst (gs++[g])) wl=some (.lst ws):=by rw[zj p,zh]
   show !(.inl (rfl,_,SqL.of B2),!(.inl (rfl,_,SqL.of x),dn,_,g,rfl,rfl,x,z16 _ _,?_));rw[QI,z1r];have sU:upd (upd G4 wl (.lst ws)) dn (.lst gs) wl=some (.lst ws):=by rw[zj p,zh]
   show(wl,ws,g,rfl,rfl,sU,z3y ∅,?_);show hM _ _ (gs,g::ws,!(?_,by rw[C,QE];rfl,by rw[wP,X]));rw[z7y p,z1r]
  .rintro σ H' ⟨d,ws,o5,rfl,rfl,C,X⟩;rw[C]at rs;have iL:d.length=U.length:=by
    have:=Qd List.length C;rw[wm]at this
    lia
   obtain⟨az,aP⟩:=rs.cut iL;have sV:zw G (upd G4 wl (.lst ws)):=λb o e=>by
    rw[zj (zq e gw)];show M _ _ (Y _ _ e)
   have y:=Nt.of sV;have d5:upd G4 wl (.lst ws) dn=none:=by rw[zj p.symm];show vz
   have w5:upd G4 wl (.lst ws) wl=some (.lst ws):=zh;have vA:=okS _ _ sV N;generalize upd G4 wl (.lst ws)=G5 at sV y d5 w5 vA ⊢;have x:upd G5 dn (.lst d) dn=some (.lst d):=zh;show !(.inl (rfl,_,SqL.of x),rfl,!(!(dn,d,x,?_)));rw[yK d5];show work r cg O wl ws G5 _ (nt.trans y) vA (gb.mono λb xs e=>y.tup e) w5 (aP.imp λr u z=>resN r u _ _ y z) λv' H6 n6 ae t d6=>?_
   show(dn,d,v',rfl,rfl,zh,z3y ∅,?_);rw[z1r];have J:=y.trans n6;show hN _ _ (H6,U++[r],d++[v'],_,_,!(rfl,d6,nt.trans J,ae,J.lst gl,R.mono λb xs e=>J.tup e,(az.imp λr u z=>resN r u _ _ J z).app (v',[],rfl,t,rfl),run',by rw[wm,wJ];lia))
 .rintro σ H' ⟨G,S,ds,o3,o4,o5,rfl,rfl,L,nt,N,gl,R,rs,run,hS⟩;rw[vt,List.drop_length]at run;cases run;obtain⟨v',ws,rfl,res,e⟩:=rs;have e':ws= []:=e;subst e';have sd:zw G (upd G dn (.lst [v'])):=zz L _;show !(zv zh zH (fin v' _ (nt.trans (Nt.of sd)) (okS _ _ sd N) (resN _ _ _ _ (Nt.of sd) res)))
def wfQ(th:Str->List Str):Qn->Prop
 | .table n=>n∈tabs
 | .pick c q=>c.ok (ze th q)/\c.size<=20/\wfQ th q
 | .cols ns q=>ns.Nodup/\(∀n∈ns,n∈ze th q)/\wfQ th q
 | .pair q r=>(∀n∈ze th q,n∉ze th r)/\(ze th q++ze th r).length<=100/\wfQ th q/\wfQ th r
 | .join a b q r=>a∈ze th q/\b∈ze th r/\(∀n∈ze th q,n∉ze th r)/\(ze th q++ze th r).length<=100/\wfQ th q/\wfQ th r
 | .both q r=>ze th q=ze th r/\wfQ th q/\wfQ th r
 | .first n q=>0<=n/\wfQ th q
 | .group a b n s q=>a∈ze th q/\b∈ze th q/\ [a,n,s].Nodup/\wfQ th q
 | .sort a q=>a∈ze th q/\wfQ th q
def zcM(nd:ns.Nodup)(h:∀n∈ns,n∈hs):ns.length<=hs.length:=kf nd h
theorem jy{th:Str->List Str}{tr:Str->List (List Int)}(T:TabOk th tr):∀{q:Qn},wfQ th q->(ze th q).Nodup/\(ze th q).length<=100
 | .table n,h=>((T.hd n h).2,by
  obtain⟨m,d,f,e⟩:=T.t;have ht:(th "t").length<=100:=by rw[e,wV];lia
  have hn:n∈tabs:=h;simp only[tabs,wL,qA,QQ]at hn
  change(th n).length<=100
  rcases hn with rfl|rfl|rfl|rfl
  .exact ht
  .rw [T.w];decide
  .rw [T.x];decide
  .rw [T.z];show ht)
 | .pick _ q,h=>jy T (q:=q) h.2.2
 | .cols ns q,h=>(h.1,wY (zcM h.1 h.2.1) (jy T (q:=q) h.2.2).2)
 | .pair q r,h=>(w04.mpr ((jy T (q:=q) h.2.2.1).1,(jy T (q:=r) h.2.2.2).1,λa ha b c e=>h.1 a ha (e ▸ c)),h.2.1)
 | .join a b q r,h=>(w04.mpr ((jy T (q:=q) h.2.2.2.2.1).1,(jy T (q:=r) h.2.2.2.2.2).1,λa ha b c e=>h.2.2.1 a ha (e ▸ c)),h.2.2.2.1)
 | .both q r,h=>jy T (q:=q) h.2.1
 | .first _ q,h=>jy T (q:=q) h.2
 | .group a b n s q,h=>(h.2.2.1,by change 3<=100;decide)
 | .sort _ q,h=>jy T (q:=q) h.2
def ze1(th:Str->List Str)(r:Qn)(v:V)(H:Hp):Prop:=∃hp,v= .ref hp/\H hp=some (.lst ((ze th r).map V.str))
inductive spHOT (K:W.Frag) (vs:List V) (H:Hp) (Q:VK) (E:XK):Prop
 | mk:∀th tr tp n,vs= [.ref tp,.str n]->FourAt th tr H tp->n∈tabs->(th n).length<=1000->(∀(hp:Addr) (H':Hp),zw H H'->H' hp=some (.lst ((th n).map V.str))->Q (.ref hp) H')->spHOT K vs H Q E
theorem z6D(h:FourAt th tr H p):∃vs:List V,H p=some (.lst vs)/\vs.length=4/\∀i,i<4->∃v,vs[i]? =some v/\TabAt th tr H v (tabs.getD i ""):=by
 obtain⟨v0,v1,v2,v3,h0,a,b,c,d⟩:=h;show(_,h0,rfl,λi hi=>?_)
 match i,hi with
 | 0,_=>show(v0,rfl,a)
 | 1,_=>show(v1,rfl,b)
 | 2,_=>show(v2,rfl,c)
 | 3,_=>show(v3,rfl,d)
theorem z9J(h:n∈tabs):∃j,j<4/\tabs.getD j ""=n:=by
 have hn:=h;simp only[tabs,wL,qA,QQ]at hn;rcases hn with rfl|rfl|rfl|rfl
 .exact(0,(),rfl)
 .exact(1,(),rfl)
 .exact(2,(),rfl)
 .exact(3,(),rfl)
theorem z0Y:FnScope ["tables","name","table"] ["tables","name"] (zi kN):=by done
theorem z3e(F:Fun K "heads_of_table" "heads_of_table" kN f fd)(T:Txt K mg):FnOk P w K mg base CX0 1 f fd ["tables","name"] (spHOT K):=by
 clear z0Y vs H Q E h F;obtain⟨th,tr,tp,n,rfl,s,hn,D,fin⟩:=h;obtain⟨vs,d,q,r⟩:=z6D s;obtain⟨j,B,t⟩:=z9J hn;intro aa A outer G hr;show(_,(zc (foR (zT v0) (gnM 2 z0Y)
   (zf (zB (cmT zO (ixT v2 zd) v1)
    (zf (zp (jj yJ rfl T.list qE (zl (ixT v2 zd) zb))))
    zt)))
  (zf z3g)),?_)
 generalize hK0:K=K1
 revert K1
 show jd #[] ?_;show !(tp,rfl,(_,SqL.of d),z1Y (xs:=vs) (λi σ H'=>∃o2,σ= [some (.ref tp),some (.str n),o2]/\H'=H/\i<=j) (none,rfl,rfl,qU _) ?_ ?_ ?_)
 .rintro i σ H' _ ⟨o2,rfl,rfl,_⟩;show SqL.of d
 .rintro i x σ H' hi ⟨o2,rfl,rfl,u⟩;have o:i<4:=by rw[<-q];show(wg.mp hi).1
  obtain⟨v,b,p,hp,rp,rs,rfl,a,c,C,y⟩:=r i o;rw[hi]at b;cases b;show !(zg a zH (!(rfl,!?_)));by_cases e:tabs.getD i ""=n
  .refine ifT (by rw[j6];show wN e) ?_;rw[e]at c;show !(zg a j8 (hp,!(.inl (SqL.of c),λl hl=>?_)));clear l hl H1 n1 x1 l;show fin l H1 n1 x1
  .refine ifF (by rw[j6];show wK e) ?_;show !(rfl,?_);have:i≠j:=λz=>e (by rw[z];show t)
   lia
 .rintro σ H' ⟨o2,rfl,rfl,u⟩
  lia
inductive spCheck (K:W.Frag) (vs:List V) (H:Hp) (Q:VK) (E:XK):Prop
 | mk:∀np hp (ns:List Str) (hs:List Str),vs= [.ref np,.ref hp]->(SqL K H np (ns.map V.str)\/SqT K H np (ns.map V.str))->SqL K H hp (hs.map V.str)->(∀n∈ns,n∈hs)->Q .non H->spCheck K vs H Q E
theorem z6R(h:n∈hs):inV (.str n) (hs.map V.str)=true:=by
 unfold inV;show QP.mpr (.str n,qx.mpr (n,h,rfl),by simp[eqV])
theorem zV(hs:List Str):(hs.map V.str).all ko=true:=qS.mpr λx a=>by
 obtain⟨s,_,rfl⟩:=qx.mp a
 rfl
theorem z8v{x:V}(h:(ns.map V.str)[i]? =some x):∃n∈ns,x= .str n:=by
 obtain⟨n,hn,e⟩:=qx.mp (qN h);show(n,hn,e.symm)
theorem z1j:FnScope ["names","heads","name"] ["names","heads"] (zi z0j):=by done
theorem z3J(F:Fun K "check_columns" "check_columns" z0j f fd)(T:Txt K mg):FnOk P w K mg base CX0 1 f fd ["names","heads"] (spCheck K):=by
 clear z1j vs H Q E h F;obtain⟨np,hp,ns,hs,rfl,ag,a,sub,q⟩:=h;intro aa A outer b hr;show(_,(zf (foR (zgg (zT v0) (z3I v0)) (gnM 2 z1j)
   (zf (zB (z01 kD v2 v1 (by with_unfolding_all rfl))
    (zf z3g)
    zt)))),?_)
 generalize hK0:K=K1
 revert K1
 show jd #[] ?_;rcases ag with ag|ag
 .refine .inl (!(np,rfl,(_,ag),z1Y (xs:=ns.map V.str) (λi σ H'=>∃o2,σ= [some (.ref np),some (.ref hp),o2]/\H'=H) (none,rfl,rfl) ?_ ?_ ?_))
  .rintro i σ H' _ ⟨o2,rfl,rfl⟩;show ag
  .rintro i x σ H' hi ⟨o2,rfl,rfl⟩;obtain⟨n,hn,rfl⟩:=z8v hi;show !(!(hp,!(.inl a,rfl,zV hs,!?_)));show ifF (by change(not (inV _ _))=false;rw[z6R (sub n hn)];rfl) (!rfl)
  .rintro σ H' ⟨o2,rfl,rfl⟩;show q
 .refine .inr (!(np,rfl,(_,ag),z9L (xs:=ns.map V.str) (λi σ H'=>∃o2,σ= [some (.ref np),some (.ref hp),o2]/\H'=H) (none,rfl,rfl) ?_ ?_ ?_))
  .rintro i σ H' _ ⟨o2,rfl,rfl⟩;show ag
  .rintro i x σ H' hi ⟨o2,rfl,rfl⟩;obtain⟨n,hn,rfl⟩:=z8v hi;show !(!(hp,!(.inl a,rfl,zV hs,!?_)));show ifF (by change(not (inV _ _))=false;rw[z6R (sub n hn)];rfl) (!rfl)
  .rintro σ H' ⟨o2,rfl,rfl⟩;show q
inductive spOnce (K:W.Frag) (vs:List V) (H:Hp) (Q:VK) (E:XK):Prop
 | mk:∀hp (hs:List Str),vs= [.ref hp]->SqL K H hp (hs.map V.str)->hs.length<=1000->hs.Nodup->(∀H',zw H H'->Q (.ref hp) H')->spOnce K vs H Q E
theorem z6u:FnScope ["heads"] ["heads"] (zi z2f):=by done
theorem z6Q(F:Fun K "each_once" "each_once" z2f f fd)(T:Txt K mg)(R:TxtP K mg):FnOk P w K mg base CX0 1 f fd ["heads"] (spOnce K):=by
 clear z6u vs H Q E h F;obtain⟨hp,hs,rfl,b,hl,nd,q⟩:=h;intro aa A outer c hr;show(_,(zc (zB (cmT z0R (zF (z7R (P:=P) (w:=w) rfl rfl) rfl T.len PySem.boot_len (zK (jj (zd2 (P:=P) (w:=w) (K:=K) rfl rfl rfl rfl) rfl R.set PyProof.Rows.boot_set (za v0 zb)) zb)) (leN T.len (za v0 zb)))
   (zf z3g)
   zt)
  (zf (zp v0))),?_)
 generalize hK0:K=K1
 revert K1
 show jd #[] ?_;show !(hp,hs,rfl,b,hl,λa ha=>?_);clear a ha H1 n1 x1 a;show(a,!(x1,!(hp,!(.inl (n1.seq b),rfl,!?_))));show ifF ?_ ?_
 .rw [(z8I hs).mpr nd,w9];simp
 .exact !(q _ n1)
inductive spOne (K:W.Frag) (vs:List V) (H:Hp) (Q:VK) (E:XK):Prop
 | mk:∀th tr q r v hp,vs= [v,.ref hp]->TabOk th tr->QAt H q v->kids q= [r]->wfQ th q->H hp=some (.lst ((ze th r).map V.str))->(∀(a7:Addr) (H':Hp),zw H H'->H' a7=some (.lst ((ze th q).map V.str))->Q (.ref a7) H')->spOne K vs H Q E
theorem z2l(h:c.ok hs):∀s∈c.cols,s∈hs:=by
 have side:∀{a:Side},a.ok hs->∀s∈a.cols,s∈hs:=λ{a} h s m=>by
  cases a with
  | nm x=>rw[show s=x from ww.mp m];show h
  | nu i=>cases m
 induction c with
 | less a b=>show λs m=>(wE.mp m).elim (side h.1 s) (side h.2 s)
 | same a b=>show λs m=>(wE.mp m).elim (side h.1 s) (side h.2 s)
 | no c j=>show j h
 | an c d e f=>show λs m=>(wE.mp m).elim (e h.1 s) (f h.2 s)
 | or c d e f=>show λs m=>(wE.mp m).elim (e h.1 s) (f h.2 s)
def zgJ{x y z u t:α}{r:List α}:atI (x::y::z::u::t::r) 4=some t:=zR (j:=4) rfl
theorem z0X:FnScope ["question","heads","word"] ["question","heads"] (zi kW):=by done
theorem z3z(F:Fun K "heads_over_one" "heads_over_one" kW f fd)(T:Txt K mg)(d:Kn P w K mg base 1 "check_columns" ["names","heads"] (spCheck K))(j:Kn P w K mg base 1 "columns_of" ["condition"] (spCols K))(i:Kn P w K mg base 1 "each_once" ["heads"] (spOnce K)):FnOk P w K mg base CX0 2 f fd ["question","heads"] (spOne K):=by
 clear z0X vs H Q E h F;obtain⟨th,tr,q,r,v,hp,rfl,TT,hq,t,wf,u,fin⟩:=h;intro aa A outer M hr;show(_,(zc (seT 2 z0X (ixT v0 zd))
  (zc (zB (cmT zO v2 zn)
   (zf (j7 (zS d hr.m (zK (zS j hr.m (zl (ixT v0 zd) zb)) (za v1 zb)))))
   (zf (zB (cmT zO v2 zn)
    (zf (j7 (zS d hr.m (jH (zC (zl (ixT v0 zd) zb)) (za v1 zb)))))
    (zf (zB (cmT zO v2 zn)
     (zc (j7 (zS d hr.m (zl (ixT v0 zd) (za v1 zb))))
     (zf (zp (zS i hr.m (zK (jj yJ rfl T.list qE (zl (ixT v0 zd) zb)) zb)))))
     (zf (zB (cmT zO v2 zn)
      (zc (j7 (zS d hr.m (jH (zC (zl (ixT v0 zd) (zl (ixT v0 zd) zb))) (za v1 zb))))
      (zf (zp (zS i hr.m (jH (zC (zl (ixT v0 zd) (zl (ixT v0 zd) (zl (ixT v0 zd) zb)))) zb)))))
      zt)))))))
  (zf (zp v1)))),?_)
 generalize hK0:K=K1
 revert K1
 show jd #[] ?_;have l0:∀n:Nat,n<=10->n<=sizeLine:=λn h=>jb ∅
 have no:∀{a b:Str},a≠b->decide (V.str a=V.str b)=false:=λ{a b} h=>by rw[j6];show wK h
 have yes:∀a:Str,decide (V.str a=V.str a)=true:=λa=>wN rfl
 cases q with
 | table n=>cases t
 | pair a b=>cases t
 | join x y a b=>cases t
 | both a b=>cases t
 | pick c q'=>
  cases (show q'=r from(List.cons.inj t).1);obtain⟨p,x,y,rfl,h1,h2,z⟩:=hq;show !(zg h1 zH ?_);show !(rfl,!?_);show ifT (yes _) ?_;show !(zg h1 j8 (c,x,c.cols,rfl,h2,by have:=wf.2.1;lia,λs m=>m,by have:=c.cols_le;have:=wf.2.1;lia,λl ss H1 o x1 nd mem L=>?_));show !(l,hp,ss,_,rfl,.inl (SqL.of x1),SqL.of (o _ _ u),λs m=>z2l wf.1 s ((mem s).mp m),?_);show !(fin hp H1 o (o _ _ u))
 | sort a q'=>
  cases (show q'=r from(List.cons.inj t).1);obtain⟨p,y,rfl,h1,z⟩:=hq;show !(zg h1 zH ?_);show !(rfl,!?_);show ifF (no ()) ?_;show !(rfl,!?_);show ifT (yes _) ?_;show !(zg h1 j8 (l0 1 (),λl hl=>?_));clear l hl H1 o x1 l;show !(l,hp,[a],_,rfl,.inl (SqL.of x1),SqL.of (o _ _ u),λs m=>by rw[ww.mp m];show wf.1,?_);show !(fin hp H1 o (o _ _ u))
 | cols ns q'=>
  cases (show q'=r from(List.cons.inj t).1);obtain⟨p,x,y,rfl,h1,h2,z⟩:=hq;show !(zg h1 zH ?_);show !(rfl,!?_);show ifF (no ()) ?_;show !(rfl,!?_);show ifF (no ()) ?_;show !(rfl,!?_);show ifT (yes _) ?_;show !(zg h1 j8 (!(x,hp,ns,_,rfl,.inr (SqT.of h2),SqL.of u,wf.2.1,?_)));show !(zg h1 j8 (x,!(.inr (SqT.of h2),λl hl=>?_)));clear l hl H1 o x1 l;have:=(jy TT wf).2;have J:ns.length<=1000:=by have:ns.length<=100:=this;lia
  show(l,ns,rfl,SqL.of x1,J,wf.1,λH2 B=>fin l H2 (o.trans B) (B _ _ x1))
 | group a b n s q'=>
  cases (show q'=r from(List.cons.inj t).1);obtain⟨p,y,rfl,h1,z⟩:=hq;show !(zg h1 zH ?_);show !(rfl,!?_);show ifF (no ()) ?_;show !(rfl,!?_);show ifF (no ()) ?_;show !(rfl,!?_);show ifF (no ()) ?_;show !(rfl,!?_);show ifT (yes _) ?_;show !(zg h1 j8 (!(zg h1 jF (l0 2 (),λl hl=>?_))));clear l hl H1 o x1 l;show !(l,hp,[a,b],_,rfl,.inl (SqL.of x1),SqL.of (o _ _ u),λs m=>?_,?_)
  .rcases wL.mp m with e|m
   .rw [e];show wf.1
   .rw [ww.mp m];show wf.2.1
  .have C:=o _ _ h1;show !(zg C j8 (!(zg C z1c (!(zg C zgJ (l0 3 (),λl2 I=>?_))))));clear l2 I H2 B x2 l2;show(l2,[a,n,s],rfl,SqL.of x2,by change 3<=1000;decide,wf.2.2.1,λG D=>fin l2 G (o.trans (B.trans D)) (D _ _ x2))
 | first n q'=>
  cases (show q'=r from(List.cons.inj t).1);obtain⟨p,y,rfl,h1,z⟩:=hq;show !(zg h1 zH ?_);show !(rfl,!?_);show ifF (no ()) ?_;show !(rfl,!?_);show ifF (no ()) ?_;show !(rfl,!?_);show ifF (no ()) ?_;show !(rfl,!?_);show ifF (no ()) ?_;show !(fin hp H (zw.refl _) u)
inductive spTwo (K:W.Frag) (vs:List V) (H:Hp) (Q:VK) (E:XK):Prop
 | mk:∀th tr q r t v hp op,vs= [v,.ref hp,.ref op]->TabOk th tr->QAt H q v->kids q= [r,t]->wfQ th q->H hp=some (.lst ((ze th r).map V.str))->H op=some (.lst ((ze th t).map V.str))->(∀(a7:Addr) (H':Hp),zw H H'->H' a7=some (.lst ((ze th q).map V.str))->Q (.ref a7) H')->spTwo K vs H Q E
theorem z3b:FnScope ["question","heads","others"] ["question","heads","others"] (zi kP):=by done
theorem z3l(F:Fun K "heads_over_two" "heads_over_two" kP f fd)(T:Txt K mg)(e:Kn P w K mg base 1 "check_columns" ["names","heads"] (spCheck K))(i:Kn P w K mg base 1 "each_once" ["heads"] (spOnce K)):FnOk P w K mg base CX0 2 f fd ["question","heads","others"] (spTwo K):=by
 clear z3b vs H Q E h F;obtain⟨th,tr,q,r,t,v,hp,op,rfl,TT,hq,j,wf,z,C,fin⟩:=h;intro aa A outer N hr;have M:=z1P hr;show(_,(zc (zB (cmT zO (ixT v0 zd) zn)
   (zc (zB (cmT (zaz (K:=K) rfl M) v1 v2)
    (zf z3g)
    zt)
   (zf (zp v1)))
   zt)
  (zc (zB (cmT zO (ixT v0 zd) zn)
   (zc (j7 (zS e hr.m (jH (zC (zl (ixT v0 zd) zb)) (za v1 zb))))
   (zf (j7 (zS e hr.m (jH (zC (zl (ixT v0 zd) zb)) (za v2 zb))))))
   zt)
  (zf (zp (zS i hr.m (yq (zo kF v1 v2) zb)))))),?_)
 generalize hK0:K=K1
 revert K1
 show jd #[] ?_;have l0:∀n:Nat,n<=10->n<=sizeLine:=λn h=>jb ∅
 have no:∀{a b:Str},a≠b->decide (V.str a=V.str b)=false:=λ{a b} h=>by rw[j6];show wK h
 have yes:∀a:Str,decide (V.str a=V.str a)=true:=λa=>wN rfl
 have o:=jy TT wf;cases q with
 | table n=>cases j
 | pick c a=>cases j
 | cols ns a=>cases j
 | first n a=>cases j
 | sort n a=>cases j
 | group a b n s q=>cases j
 | both a b=>
  obtain⟨rfl,u⟩:=List.cons.inj j;obtain⟨rfl,_⟩:=List.cons.inj u;obtain⟨p,x,y,rfl,h1,h2,I⟩:=hq;show !(zg h1 zH (rfl,!?_));show ifT (yes _) ?_;show !(!(hp,op,~~~(SqL.of z,SqL.of C,zV _,zV _,!?_)));show ifF (by rw[z7X,wN wf.1];rfl) ?_;show !(fin hp H (zw.refl _) z)
 | pair a b=>
  obtain⟨rfl,u⟩:=List.cons.inj j;obtain⟨rfl,_⟩:=List.cons.inj u;obtain⟨p,x,y,rfl,h1,h2,I⟩:=hq;show !(zg h1 zH (rfl,!?_));show ifF (no ()) ?_;show !(zg h1 zH (rfl,!?_));show ifF (no ()) ?_;show !(!(hp,op,~~~(z,C,jb (by rw[w9,w9];have:=o.2;rw[show ze th (Qn.pair a b)=ze th a++ze th b from rfl,wm]at this;lia),λl hl=>?_)));clear l hl H1 n1 x1 l;rw[<-wF]at x1;show(l,_,rfl,SqL.of x1,by have:(ze th a++ze th b).length<=100:=o.2;lia,o.1,λH2 D=>fin l H2 (n1.trans D) (D _ _ x1))
 | join c d a b=>
  obtain⟨rfl,u⟩:=List.cons.inj j;obtain⟨rfl,_⟩:=List.cons.inj u;obtain⟨p,x,y,rfl,h1,h2,I⟩:=hq;show !(zg h1 zH (rfl,!?_));show ifF (no ()) ?_;show !(zg h1 zH (rfl,!?_));show ifT (yes _) ?_;show !(zg h1 j8 (l0 1 (),λl hl=>?_));clear l hl H1 n1 x1 l;show !(l,hp,[c],_,rfl,.inl (SqL.of x1),SqL.of (n1 _ _ z),λs m=>by rw[ww.mp m];show wf.1,?_);show !(zg (n1 _ _ h1) jF (l0 1 (),λl2 L=>?_));clear l2 L H2 D x2 l2;have n12:=n1.trans D;show !(l2,op,[d],_,rfl,.inl (SqL.of x2),SqL.of (n12 _ _ C),λs m=>by rw[ww.mp m];show wf.2.1,?_);show !(!(hp,op,~~~(n12 _ _ z,n12 _ _ C,jb (by rw[w9,w9];have:=o.2;rw[show ze th (Qn.join c d a b)=ze th a++ze th b from rfl,wm]at this;lia),λB G=>?_)));clear B G H3 n3 x3 B;rw[<-wF]at x3;show(B,_,rfl,SqL.of x3,by have:(ze th a++ze th b).length<=100:=o.2;lia,o.1,λH4 J=>fin B H4 (n12.trans (n3.trans J)) (J _ _ x3))
inductive spHeadsAt (K:W.Frag) (vs:List V) (H:Hp) (Q:VK) (E:XK):Prop
 | mk:∀th tr q v tp wl ws,vs= [.ref tp,v,.ref wl]->TabOk th tr->FourAt th tr H tp->QAt H q v->wfQ th q->H wl=some (.lst ws)->z0c (ze1 th) H (kids q) ws->(∀(hp:Addr) (H':Hp),zw H H'->H' hp=some (.lst ((ze th q).map V.str))->Q (.ref hp) H')->spHeadsAt K vs H Q E
theorem z7b:FnScope ["tables","question","within"] ["tables","question","within"] (zi z30):=by done
theorem z7T(F:Fun K "heads_at" "heads_at" z30 f fd)(T:Txt K mg)(b:Kn P w K mg base 1 "heads_of_table" ["tables","name"] (spHOT K))(c:Kn P w K mg base 2 "heads_over_one" ["question","heads"] (spOne K))(a:Kn P w K mg base 2 "heads_over_two" ["question","heads","others"] (spTwo K)):FnOk P w K mg base CX0 3 f fd ["tables","question","within"] (spHeadsAt K):=by
 clear z7b vs H Q E h F;obtain⟨th,tr,q,v,tp,wl,ws,rfl,TT,D,hq,wf,d,rs,fin⟩:=h;intro aa A outer I hr;show(_,(zc (zB (cmT zO (leN T.len (za v2 zb)) zd)
   (zf (zp (zS b hr.m (za v0 (zl (ixT v1 zd) zb)))))
   zt)
  (zc (zB (cmT zO (leN T.len (za v2 zb)) zd)
   (zf (zp (zS c hr.m (za v1 (zl (ixL v2 zd) zb)))))
   zt)
  (zf (zp (zS a hr.m (za v1 (zl (ixL v2 zd) (zl (ixL v2 zd) zb)))))))),?_)
 generalize hK0:K=K1
 revert K1
 show jd #[] ?_;have j:=rs.len;rcases zcN hq with⟨n,p,rfl,rfl,hp⟩|⟨r,p,w,xs,y,hk,rfl,hp,hy,aV,hw⟩|⟨r,t,p,w,xs,x,y,hk,rfl,hp,hx,hy,aV,hw⟩
 .have l0:ws.length=0:=j;show !(wl,!(.inl (SqL.of d),rfl,!?_));show ifT (by rw[l0];simp) ?_;show !(!(zg hp j8 (th,tr,tp,n,rfl,D,wf,by have:=(jy TT wf).2;have:(th n).length<=100:=this;lia,fin)))
 .rw [hk]at rs j;obtain⟨u,us,rfl,⟨i,rfl,l⟩,e⟩:=rs;have o:us= []:=e;subst o;show !(wl,!(.inl (SqL.of d),rfl,!?_));show ifF (by simp) ?_;show !(wl,!(.inl (SqL.of d),rfl,!?_));show ifT (by simp) ?_;show !(!(zv d zH (th,tr,q,r,.ref p,i,rfl,TT,hq,hk,wf,l,fin)))
 .rw [hk]at rs j;obtain⟨u,us,rfl,⟨i,rfl,l⟩,G,B,rfl,⟨z,rfl,e⟩,s⟩:=rs;have C:B= []:=s;subst C;show !(wl,!(.inl (SqL.of d),rfl,!?_));show ifF (by simp) ?_;show !(wl,!(.inl (SqL.of d),rfl,!?_));show ifF (by simp) ?_;show !(!(zv d zH (!(zv d j8 (th,tr,q,r,t,.ref p,i,z,rfl,TT,hq,hk,wf,l,e,fin)))))
noncomputable def zct:Pos:=match jO z1v with
 | [.Return (some (.Call _ [_,.Lambda _ _ _ p] _ _)) _]=>p
 | _=>(0,0,0,0)
noncomputable abbrev zcL:Str:=Str.ofString "heads_of" ++ ".<locals>." ++ "<lambda>"
noncomputable def zch:Pos:=match jO kG with
 | [_,.Return (some (.Call _ [_,.Lambda _ _ _ p] _ _)) _]=>p
 | _=>(0,0,0,0)
noncomputable abbrev zbJ:Str:=Str.ofString "plain_answer" ++ ".<locals>." ++ "<lambda>"
structure Ls(T1 T2 T3:Addr)(H:Hp):Prop where
 a:jN H T1 zct zcL
 b:jN H T2 zch zbJ
 c:jN H T3 z4F zbX
 d12:T1≠T2
 d13:T1≠T3
 d23:T2≠T3
theorem z1y{a:Addr}{b:Pos}{q q':Str}(e:jN H T lp q)(h:jN H a b q')(n:T≠a)(k:Kp T H H'):jN H' a b q':=by
 rcases h with h|⟨c,h,oc,vs,t,h2,d⟩
 .exact .inl (k _ _ n.symm h)
 .exact .inr (c,k _ _ n.symm h,oc,vs,t,k _ _ (e.ne h2 λps z=>by cases z) h2,d)
def z9c{q:Str}(a:jN H T lp q)(k:Kp T H H'):Nt H H':=λb o e n=>k b o (a.ne e n) e
theorem Ls.same(h:Ls T1 T2 T3 H)(e:zw H H'):Ls T1 T2 T3 H':=(h.a.same e,h.b.same e,h.c.same e,h.d12,h.d13,h.d23)
def Ls.kp1(h:Ls T1 T2 T3 H)(k:Kp T1 H H')(z:jN H' T1 zct zcL):Ls T1 T2 T3 H':=(z,z1y h.a h.b h.d12 k,z1y h.a h.c h.d13 k,h.d12,h.d13,h.d23)
def Ls.kp2(h:Ls T1 T2 T3 H)(k:Kp T2 H H')(z:jN H' T2 zch zbJ):Ls T1 T2 T3 H':=(z1y h.b h.a h.d12.symm k,z,z1y h.b h.c h.d23 k,h.d12,h.d13,h.d23)
def Ls.kp3(h:Ls T1 T2 T3 H)(k:Kp T3 H H')(z:jN H' T3 z4F zbX):Ls T1 T2 T3 H':=(z1y h.c h.a h.d13.symm k,z1y h.c h.b h.d23.symm k,z,h.d12,h.d13,h.d23)
def _root_.L2.WorkOk.mono{CX:CXT}{k:Nat}{fs:List Addr}{s:Shared}{lf:Addr}(W:WorkOk P w K mg base CX j fs H s lf sp)(h:j<=k):WorkOk P w K mg base CX k fs H s lf sp:=
 (W.here,λA outer s' H' us vs Q E hr=>W.run A outer s' H' us vs Q E (hr.mono h))
def _root_.Rw.RowsAt.nt(h:RowsAt H p rs)(k:Nt H H'):RowsAt H' p rs:=(k.lst h.1,λr m=>((h.2 r m).1,k.lst (h.2 r m).2))
theorem TabAt.nt{v:V}(h:TabAt th tr H v n)(k:Nt H H'):TabAt th tr H' v n:=by
 obtain⟨p,hp,rp,rs,rfl,h1,a,b,c⟩:=h;show(p,hp,rp,rs,rfl,k.tup h1,k.lst a,b.nt k,c)
theorem FourAt.nt(h:FourAt th tr H p)(k:Nt H H'):FourAt th tr H' p:=by
 obtain⟨v0,v1,v2,v3,h0,a,b,c,d⟩:=h;show(v0,v1,v2,v3,k.lst h0,a.nt k,b.nt k,c.nt k,d.nt k)
def _root_.Qs.QAt.nt{v:V}(h:QAt H q v)(k:Nt H H'):QAt H' q v:=h.mono λb xs e=>k.tup e
theorem z6X(h:wfQ th q):∀r∈kids q,wfQ th r:=by cases q<;>simp_all[kids,wfQ]
def z6n(h:wfQ th q):∀r∈post q,wfQ th r:=z7P (λv=>z6X) _ h
inductive spHeadsOf (K:W.Frag) (T1 T2 T3:Addr) (vs:List V) (H:Hp) (Q:VK) (E:XK):Prop
 | mk:∀th tr q v tp,vs= [.ref tp,v]->TabOk th tr->FourAt th tr H tp->QAt H q v->wfQ th q->(post q).length<=8000000->Ls T1 T2 T3 H->(∀(hp:Addr) (H':Hp),Nt H H'->Ls T1 T2 T3 H'->H' hp=some (.lst ((ze th q).map V.str))->Q (.ref hp) H')->spHeadsOf K T1 T2 T3 vs H Q E
theorem z7h:FnScope ["tables","question"] ["tables","question"] (zi z1v):=by done
theorem z7u{c:Addr}(F:Fun K "heads_of" "heads_of" z1v f fd)(T:Txt K mg)(hc:fd.code= .ref c)(C:PySem.W.CodeHd base c T1)(B:base.BuiltinsAt mg T1)(i:KnS P w K mg base CX0 9 "built_up" ["question","work"] (z4x P w K mg base 8))(d:Kn P w K mg base 3 "heads_at" ["tables","question","within"] (spHeadsAt K)):FnOk P w K mg base CX0 10 f fd ["tables","question"] (spHeadsOf K T1 T2 T3):=by
 show F.okC z7h (λvs H Q E h=>?_) (λA outer s H vs Q E hr h=>?_)
 .obtain⟨th,tr,q,v,tp,rfl,_⟩:=h
  rfl
 obtain⟨th,tr,q,v,tp,rfl,TT,R,hq,wf,hsz,o,fin⟩:=h;show(_,(zf (zp (z2X (k:=3) (T:=T1) (c:=c) (j:=0) (a:="place") (b:="within") (y:="tables") i z2N hr rfl (pv 1) hc C B (rfl,rfl,rfl,rfl,rfl,rfl,(),(),()) (w0g rfl) rfl
  (λm m m m m m m m hl=>z2h d hl rfl (za (pv 2) (za (pv 0) (za (pv 1) zb))))))),?_)
 show !(o.a,.ref tp,rfl,λlf c' H2 s2 D O W=>?_);have p:=z9c o.a D;have l:=o.kp1 D (.inr (c',O));show(v,q,lf,_,Ls T1 T2 T3,ze1 th,rfl,hq.nt p,hsz,W.mono (),l,λH1 H2 e z=>z.same e,λr u H1 H2 n ⟨hp,e,z⟩=>(hp,e,n.lst z),λr I x wl ws Y X U M L G rs k=>?_,λv' H' J N ⟨hp,e,z⟩=>?_)
 .exact(x,.ref wl,rfl,!(!(!(th,tr,r,x,tp,wl,ws,rfl,TT,R.nt (p.trans U),L,z6n wf r I,G,rs,λhp H4 t S=>k _ _ (Nt.of t) (M.same t) (hp,rfl,S)))))
 .rw [e];show fin hp H' (p.trans J) N z
theorem z9b(s:Nat)(rows:List (List Int))(k:Int):k∈jK s rows↔∃r∈rows,r.getD s 0=k:=by
 show snoc_ind (P:=λrows=>k∈jK s rows↔∃r∈rows,r.getD s 0=k) (by simp[jK]) (λl a b=>?_) rows;have e:jK s (l++[a])=if a.getD s 0∈jK s l then jK s l else jK s l++[a.getD s 0]:=by unfold jK;rw[w0X];rfl
 rw[e];have:(∃r∈l++[a],r.getD s 0=k)↔(∃r∈l,r.getD s 0=k)\/a.getD s 0=k:=by
  constructor
  .rintro⟨r,hr,h⟩;rcases wE.mp hr with hr|hr
   .exact .inl (r,hr,h)
   .rw [ww.mp hr]at h;show .inr h
  .rintro(⟨r,hr,h⟩|h)
   .exact(r,q5 _ hr,h)
   .exact(a,wC _ (ww.mpr rfl),h)
 rw[this,<-b];split
 .rename_i h;show(.inl,λz=>z.elim id λz=>z ▸ h)
 .rw [wE,ww,eq_comm (a:=k)]
theorem zaG(s p:Nat)(rows:List (List Int)):yQ rows s p=z2S s p rows:=by
 show snoc_ind (P:=λrows=>yQ rows s p=z2S s p rows) rfl (λl a d=>?_) rows;have e:jK s (l++[a])=if a.getD s 0∈jK s l then jK s l else jK s l++[a.getD s 0]:=by unfold jK;rw[w0X];rfl
 have b:yQ (l++[a]) s p=z2n (yQ l s p) (a.getD s 0) (a.getD p 0):=by unfold yQ;rw[w0X];rfl
 generalize hk:a.getD s 0=k at e b;have f1:∀k',yH s p (l++[a]) k'=z0Q k (a.getD p 0) (yH s p l k'):=λk'=>by
  unfold yH z0Q;rw[w0J];by_cases h:k'=k
  .subst h;rw[show [a].filter (λr=>decide (r.getD s 0=k'))= [a]from Q5 (wN hk)];simp
  .rw [show [a].filter (λr=>decide (r.getD s 0=k'))= []from w14 (by rw[w0V,hk];show λz=>h z.symm)];simp[h]
 have f2:((z2S s p l).any λm=>decide (m.getD 0 0=k))=decide (k∈jK s l):=by
  unfold z2S;rw[List.any_map,w09,QP,w0V];constructor
  .rintro⟨x,c,h⟩;have:x=k:=by simpa [yH]using h
   show this ▸ c
  .exact λh=>(k,h,by simp[yH])
 rw[b,d];unfold z2n;rw[f2];unfold z2S;rw[e,Qp];have f:(jK s l).map (z0Q k (a.getD p 0) ∘ yH s p l)=(jK s l).map (yH s p (l++[a])):=Qy λx v=>(f1 x).symm
 rw[f];by_cases h:k∈jK s l
 .rw [qd h,qd (wN h),Q3]
 .rw [wW h,wW (by simpa using h),wF]
  congr 1
  change [[k,1,a.getD p 0]]= [yH s p (l++[a]) k]
  rw[f1];have hz:l.filter (λr=>decide (r.getD s 0=k))= []:=w19.mpr λr hr z=>h ((z9b s l k).mpr (r,hr,by simpa using z))
  unfold yH z0Q;rw[hz];simp
theorem zcE{a b:Str}(ha:a∈hq)(q:b∈hr)(r:∀n∈hq,n∉hr)(s:∀x∈rows,x.length=hq.length):
  joinR rows others (hq.idxOf a) (hr.idxOf b)=(pairs rows others).filter λz=>decide (z.getD ((hq++hr).idxOf a) 0=z.getD ((hq++hr).idxOf b) 0):=by
 have i:(hq++hr).idxOf a=hq.idxOf a:=by rw[List.idxOf_append,qd ha]
 have j:(hq++hr).idxOf b=hr.idxOf b+hq.length:=by rw[List.idxOf_append,wW λz=>r b z q]
 have la:hq.idxOf a<hq.length:=qC.mpr ha;unfold joinR pairs;rw[List.filter_flatMap];have p:∀(l:List (List Int)) (f g:List Int->List (List Int)),(∀x∈l,f x=g x)->l.flatMap f=l.flatMap g:=λl f g h=>by
  induction l with
  | nil=>rfl
  | cons x l o=>rw[QU,QU,h x qy,o λy d=>h y (wZ _ d)]
 show p _ _ _ λx c=>?_
 rw[w00]
 congr 1
 show w0w λy v=>?_
 have e:=s x c
 change _=decide ((x++y).getD _ 0=(x++y).getD _ 0)
 rw[i,j,wn (l:=x++y),wn (l:=x++y),qY ∅,qW ∅,e,w1c,<-wn,<-wn]
theorem zdk{L:List (List Int)}(h:zdb s rows L):L=ke s rows:=by
 obtain⟨is,hp,rfl,a⟩:=h;unfold ke;rw[<-z41 hp (a.imp λ{i j} z=>wN (by unfold z36;lia))]
theorem jo(T:TabOk th tr):∀{q:Qn},wfQ th q->∀r∈rowsOf th tr q,r.length=(ze th q).length
 | .table n,h=>λr m=>T.rl n h r m
 | .pick c q,h=>λr m=>jo T (q:=q) h.2.2 r (Qr.mp m).1
 | .cols ns q,h=>λr m=>by
  obtain⟨x,_,rfl⟩:=qx.mp m;rw[w9];rfl
 | .pair q s,h=>λr m=>by
  obtain⟨x,d,y,e,rfl⟩:=z2z m
  change _=(ze th q++ze th s).length
  rw[wm,wm,jo T (q:=q) h.2.2.1 x d,jo T (q:=s) h.2.2.2 y e]
 | .join a b q s,h=>λr m=>by
  obtain⟨x,d,y,e,rfl⟩:=z2z (Qr.mp m).1
  change _=(ze th q++ze th s).length
  rw[wm,wm,jo T (q:=q) h.2.2.2.2.1 x d,jo T (q:=s) h.2.2.2.2.2 y e]
 | .both q s,h=>λr m=>by
  rcases wE.mp m with m|m
  .exact jo T (q:=q) h.2.1 r m
  .have:=jo T (q:=s) h.2.2 r m;rw[<-h.1]at this;show this
 | .first n q,h=>λr m=>jo T (q:=q) h.2 r (QG m)
 | .group a b n s q,h=>λr m=>by
  obtain⟨x,_,rfl⟩:=qx.mp m
  rfl
 | .sort a q,h=>λr m=>jo T (q:=q) h.2 r (z6i m)
theorem z4a:∀{q:Qn},kM th tr q->(rowsOf th tr q).length<=60
 | .table n,h=>h
 | .pick c q,h=>wY (qz _ _) (z4a (q:=q) h)
 | .cols ns q,h=>by change(List.map _ _).length<=60;rw[w9];show z4a (q:=q) h
 | .pair q r,h=>by change(pairs _ _).length<=60;rw[pairs_len];show h.2.2
 | .join a b q r,h=>wY (qz _ _) (by rw[pairs_len];show h.2.2)
 | .both q r,h=>by change(rowsOf th tr q++rowsOf th tr r).length<=60;rw[wm];show h.2.2
 | .first n q,h=>by change(List.take _ _).length<=60;rw[wV];have:=z4a (q:=q) h;lia
 | .group a b n s q,h=>by change(List.map _ _).length<=60;rw[w9];show wY (z3M _) (z4a (q:=q) h)
 | .sort a q,h=>by change(ke _ _).length<=60;rw[z3D];show z4a (q:=q) h
theorem z7V(h:kM th tr q):∀r∈kids q,kM th tr r:=by cases q<;>simp_all[kids,kM]
def zbU(h:kM th tr q):∀r∈post q,kM th tr r:=z7P (λv=>z7V) _ h
inductive spROT (K:W.Frag) (vs:List V) (H:Hp) (Q:VK) (E:XK):Prop
 | mk:∀th tr tp n,vs= [.ref tp,.str n]->FourAt th tr H tp->n∈tabs->(∀(rp:Addr) (rs:List (Addr×List Int)) (H':Hp),zw H H'->RowsAt H' rp rs->rs.map (·.2)=tr n->Q (.ref rp) H')->spROT K vs H Q E
theorem z3Q:FnScope ["tables","name"] ["tables","name"] (zi yY):=by done
theorem z3R(F:Fun K "rows_of_table" "rows_of_table" yY f fd)(T:Txt K mg):FnOk P w K mg base CX0 1 f fd ["tables","name"] (spROT K):=by
 clear z3Q vs H Q E h F;obtain⟨th,tr,tp,n,rfl,L,hn,fin⟩:=h;obtain⟨vs,y,l,q⟩:=z6D L;obtain⟨j,a,b⟩:=z9J hn;obtain⟨X,d,O,R,t,B,D,o,I,J,s⟩:=q j a;have uniq:∀i,i<4->tabs.getD i ""=n->i=j:=λi hi e=>by
  rw[<-b]at e;have u:∀i,i<4->∀j,j<4->tabs.getD i ""=tabs.getD j ""->i=j:=by decide
  show u i hi j a e
 rw[b]at o I s;intro aa A outer U hr;show(_,(zf (zp (ixL (jB rfl (CompSc.of (sx:=zi yY) (NX:= ["tables","name"]) (fr:= ["name"]) (ix:= [1]) rfl rfl ()) (zT v0) (λm m m m m m=>(z2o (cmT zO (yz (z09 (K:=K) rfl) v0 zd (λm m=>rfl)) v1))) (λm m m m m m=>(yz (z09 (K:=K) rfl) v0 zd (λm m=>rfl)))) zd))),?_);generalize hK0:K=K1
 revert K1
 show jd #[] ?_;show !(tp,rfl,(_,SqL.of y),?_);show z0F (xs:=vs) (λi ys H'=>H'=H/\ys=if j<i then [.ref t]else []) (rfl,by rw[wW (Nat.not_lt_zero _)]) ?_ ?_ ?_
 .rintro i ys H' hi ⟨rfl,rfl⟩;show(SqL.of y,zG (by split<;>simp))
 .rintro i x ys H' hi ⟨rfl,rfl⟩;have c:i<4:=by rw[<-l];show(wg.mp hi).1
  obtain⟨v,r,p,hp,rp,rs,rfl,C,Y,S,N⟩:=q i c;rw[hi]at r;cases r;show !(zg C zH (!(rfl,!?_)));by_cases e:tabs.getD i ""=n
  .refine ifT (by rw[j6];show wN e) ?_;have G:=uniq i c e;subst G;rw[hi]at d;cases d;cases D;show !(zg o jF (rfl,?_));rw[wW (QX _),qd (w0E _)]
   rfl
  .refine ifF (by rw[j6];show wK e) ?_;show(rfl,?_);have:i≠j:=λz=>e (by rw[z];show b)
   by_cases h:j<i
   .rw [qd h,qd ∅]
   .rw [wW h,wW ∅]
 .rintro ys H' ⟨rfl,rfl⟩ np M;rw[l,qd a];clear np M H1 n1 x1 np;show zv x1 zH (fin t B H1 n1 (J.same n1) s)
inductive spNums (K:W.Frag) (vs:List V) (H:Hp) (Q:VK) (E:XK):Prop
 | mk:∀rp sp (xs:List Int) (is:List Nat),vs= [.ref rp,.ref sp]->SqL K H rp (xs.map V.int)->SqL K H sp (is.map λi:Nat=>V.int (i:Int))->(∀i∈is,i<xs.length)->is.length<=1000->(∀(p:Addr) (H':Hp),zw H H'->H p=none->H' p=some (.lst ((is.map λi=>xs.getD i 0).map V.int))->Q (.ref p) H')->spNums K vs H Q E
theorem z5o:FnScope ["row","spots"] ["row","spots"] (zi z0u):=by done
theorem z5A(F:Fun K "numbers_at" "numbers_at" z0u f fd)(T:Txt K mg):FnOk P w K mg base CX0 1 f fd ["row","spots"] (spNums K):=by
 clear z5o vs H Q E h F;obtain⟨rp,sp,xs,is,rfl,e,b,d,hl,fin⟩:=h;intro aa A outer j hr;show(_,(zf (zp (jB rfl (CompSc.of (sx:=zi z0u) (NX:= ["row","spots"]) (fr:= ["row"]) (ix:= [0]) rfl rfl ()) (zT v1) (λv v v v v v=>jh) (λv v v v v v=>(yz (yA (K:=K) rfl) v1 v0 (λv v=>rfl)))))),?_);generalize hK0:K=K1
 revert K1
 show jd #[] ?_;show !(sp,rfl,(_,b),?_);show jc (xs:=is.map λi:Nat=>V.int (i:Int)) (λi ys H'=>H'=H/\ys=((is.take i).map λi=>xs.getD i 0).map V.int) (rfl,rfl) ?_ ?_ ?_
 .rintro i ys H' hi ⟨rfl,rfl⟩;show(b,zG (by rw[w9,w9,wV];lia))
 .rintro i x ys H' hi ⟨rfl,rfl⟩;have a:i<is.length:=by
   have:=(wg.mp hi).1
   rwa [w9]at this
  rw[wM,we a]at hi;cases hi;show !(!(rp,_,_,!(rfl,e,zR (int_at (d _ (wz a))),rfl,?_)));rw[wR,we a,wF,wF]
  rfl
 .rintro ys H' ⟨rfl,rfl⟩ np c;rw[w9,qf];clear np c H1 n1 x1 np;show fin np H1 n1 c x1
inductive spPaired (K:W.Frag) (vs:List V) (H:Hp) (Q:VK) (E:XK):Prop
 | mk:∀a b rs os,vs= [.ref a,.ref b]->RowsAt H a rs->RowsAt H b os->rs.length*os.length<=60->os.length<=60->(∀r∈rs,r.2.length<=100)->(∀r∈os,r.2.length<=100)->(∀(p:Addr) (qs:List (Addr×List Int)) (H':Hp),zw H H'->RowsAt H' p qs->qs.map (·.2)=pairs (rs.map (·.2)) (os.map (·.2))->Q (.ref p) H')->spPaired K vs H Q E
theorem z3E:FnScope ["rows","others","found","row"] ["rows","others"] (zi z3q):=by done
theorem zaN(F:Fun K "paired" "paired" z3q f fd)(T:Txt K mg):FnOk P w K mg base CX0 1 f fd ["rows","others"] (spPaired K):=by
 clear z3E vs H Q E h F;obtain⟨a,b,rs,os,rfl,ha,t,hlen,R,J,N,fin⟩:=h;intro aa A outer Z hr;show(_,(zc (seT 2 z3E (zC zb))
  (zc (foR (zT v0) (z0D (i:=3) z3E.nd rfl (QV rfl))
   (zf (j7 (kg wO PySem.F.slot_list_extend PySem.F.type_list_extend z5H v2 (z0w (jB rfl (CompSc.of (sx:=zi z3q) (NX:= ["rows","others","found","row"]) (fr:= ["row"]) (ix:= [3]) rfl rfl ()) (zT v1) (λv v v v v v=>jh) (λv v v v v v=>(zo kF v1 v0))) zb)))))
  (zf (zp v2)))),?_)
 generalize hK0:K=K1
 revert K1
 show jd #[] ?_;clear fp bF H1 n1 x1;have u:(refs rs).length=rs.length:=w9 _;have B:(refs os).length=os.length:=w9 _;show !(a,rfl,(_,SqL.of (n1 _ _ ha.1)),z1Y (xs:=refs rs) (λi σ H'=>∃(qs:List (Addr×List Int)) (o3:Option V),σ= [some (.ref a),some (.ref b),some (.ref fp),o3]/\zw H H'/\RowsAt H' fp qs/\qs.map (·.2)=pairs ((rs.take i).map (·.2)) (os.map (·.2)))
  ([],none,rfl,n1,yE x1,rfl) ?_ ?_ ?_)
 .rintro i σ H' _ ⟨qs,o3,rfl,s',_⟩;show SqL.of (s' _ _ ha.1)
 .rintro i x σ H' hi ⟨qs,o3,rfl,s2,hq,eq⟩;have q:i<rs.length:=by
   have:=(wg.mp hi).1
   rwa [u]at this
  rw[yb q]at hi;cases hi;have M:=(ha.2 _ (wz q)).2;have Y:=J _ (wz q);have S:qs.length=i*os.length:=by
   have:=Qd List.length eq;rw[w9,pairs_len,w9,w9,wV]at this;rw[this,Nat.min_eq_left ∅]
  have Fm:qs.length+os.length<=60:=by
   have h1:(i+1)*os.length<=rs.length*os.length:=QJ _ ∅;rw[w07,w1l]at h1
   lia
  show !(.inl (rfl,_,SqL.of hq.1),!(b,rfl,(_,SqL.of (s2 _ _ t.1)),?_));show jc (xs:=refs os) (λj ys d=>zw H' d/\∃ps:List (Addr×List Int),ys=refs ps/\(∀p∈ps,H' p.1=none/\d p.1=some (.lst (p.2.map V.int)))/\ps.map (·.2)=(os.take j).map λy=>rs[i].2++y.2) (zw.refl _,[],rfl,λv z=>(nomatch z),rfl) ?_ ?_ ?_
  .rintro j ys d n ⟨c,ps,rfl,l,e⟩;show(SqL.of (c _ _ (s2 _ _ t.1)),zG ?_);have:=Qd List.length e;rw[w9,w9,wV]at this;rw[w9]
   lia
  .rintro j y ys d n ⟨c,ps,rfl,l,e⟩;have s:j<os.length:=by
    have:=(wg.mp n).1
    rwa [B]at this
   rw[yb s]at n;cases n;have O:=(t.2 _ (wz s)).2;have U:=N _ (wz s);show !(!(rs[i].1,os[j].1,_,!(rfl,c _ _ (s2 _ _ M),c _ _ (s2 _ _ O),jb (by rw[w9,w9];lia),λnp D=>?_)));clear np D H4 n4 x4 np;rw[<-wF]at x4;show(c.trans n4,ps++[(np,rs[i].2++os[j].2)],by simp[refs],λp hp=>?_,?_)
   .rcases wE.mp hp with hp|hp
    .exact((l p hp).1,n4 _ _ (l p hp).2)
    .rw [ww.mp hp];show(c.free D,x4)
   .rw [wF,e,wR,we s,wF]
    rfl
  .rintro ys d ⟨c,ps,rfl,l,e⟩ cp I;rw[B,qf]at e;clear cp I H4 n4 x4 cp;have G:=c.trans n4;have o:=hq.same G;have X:ps.length=os.length:=by
    have:=Qd List.length e
    rwa [w9,w9]at this
   show(fp,cp,_,!(rfl,o.1,x4,jb (by rw[w9,w9];lia),?_));show(qs++ps,!((s2.trans G).put bF,(by rw[zh];simp[refs],λr m=>?_),?_))
   .rcases wE.mp m with m|m
    .exact((o.2 r m).1,by rw[zj (o.2 r m).1];show(o.2 r m).2)
    .have C:=l r m;have nf:r.1≠fp:=λz=>by
      have:=C.1;rw[z,hq.1]at this;cases this
     show(nf,by rw[zj nf];show n4 _ _ C.2)
   .have L:(rs.map (·.2))[i]? =some rs[i].2:=z1x q;rw[wF,eq,e,QZ,QZ,z4G L,Qp]
    rfl
 .rintro σ H' ⟨qs,o3,rfl,s',hq,eq⟩;rw[u,qf]at eq;show !(fin fp qs H' s' hq eq)
inductive spR1 (K:W.Frag) (T1 T2 T3:Addr) (vs:List V) (H:Hp) (Q:VK) (E:XK):Prop
 | mk:∀th tr q r v hp rp rs,vs= [v,.ref hp,.ref rp]->TabOk th tr->QAt H q v->kids q= [r]->wfQ th q->wfQ th r->H hp=some (.lst ((ze th r).map V.str))->RowsAt H rp rs->rs.map (·.2)=rowsOf th tr r->(rowsOf th tr r).length<=60->Ls T1 T2 T3 H->(∀(p:Addr) (qs:List (Addr×List Int)) (H':Hp),Nt H H'->Ls T1 T2 T3 H'->RowsAt H' p qs->qs.map (·.2)=rowsOf th tr q->Q (.ref p) H')->spR1 K T1 T2 T3 vs H Q E
theorem z00:FnScope ["question","heads","rows","word","spots"] ["question","heads","rows"] (zi jS):=by done
theorem z3Y(F:Fun K "rows_over_one" "rows_over_one" jS f fd)(T:Txt K mg)(I:Kn P w K mg base 3 "holds" ["condition","heads","row"] (spHolds K))(d:Kn P w K mg base 1 "numbers_at" ["row","spots"] (spNums K))(t:Kn P w K mg base 2 "grouped" ["rows","spot","place"] (spGrouped K))(o:Kn P w K mg base 3 "in_order" ["rows","spot"] (spOrder K T3)):FnOk P w K mg base CX0 4 f fd ["question","heads","rows"] (spR1 K T1 T2 T3):=by
 clear z00 vs H Q E h F;obtain⟨th,tr,q,r,v,hp,rp,rs,rfl,TT,hq,C,wf,iQ,G,D,J,ot,L,fin⟩:=h;intro aa A outer sh hr;show(_,(zc (seT 3 z00 (ixT v0 zd))
  (zc (zB (cmT zO v3 zn)
   (zf (zp (jB rfl (CompSc.of (sx:=zi jS) (NX:= ["question","heads","rows","word","spots"]) (fr:= ["question","heads"]) (ix:= [0,1]) rfl rfl ()) (zT v2) (λk k k k k k=>(z2o (zX (zS I hr.m (zl (yz (z09 (K:=K) rfl) v1 zd (λk k=>rfl)) (za v2 (za v0 zb))))))) (λk k k k k k=>v0))))
   zt)
  (zc (zB (cmT zO v3 zn)
   (zc (yN (i:=4) z00.nd rfl (QV rfl) (jB rfl (CompSc.of (sx:=zi jS) (NX:= ["question","heads","rows","word","spots"]) (fr:= ["heads"]) (ix:= [1]) rfl rfl ()) (z3I (ixT v0 zd)) (λk k k k k k=>jh) (λk k k k k k=>(zd8 (K:=K) rfl wO qG qI (z68 (K:=K) rfl) v1 (za v0 zb)))))
   (zf (zp (jB rfl (CompSc.of (sx:=zi jS) (NX:= ["question","heads","rows","word","spots"]) (fr:= ["spots"]) (ix:= [4]) rfl rfl ()) (zT v2) (λk k k k k k=>jh) (λk k k k k k=>(zS d hr.m (za v0 (za v1 zb))))))))
   zt)
  (zc (zB (cmT zO v3 zn)
   (zf (zp (zS t hr.m (za v2 (zK (kg wO qG qI yf v1 (zl (ixT v0 zd) zb)) (zK (kg wO qG qI yf v1 (zl (ixT v0 zd) zb)) zb))))))
   zt)
  (zc (zB (cmT zO v3 zn)
   (zf (zp (zS o hr.m (za v2 (zK (kg wO qG qI yf v1 (zl (ixT v0 zd) zb)) zb)))))
   zt)
  (zf (zp (jt yI v2 jW (jI (ixT v0 zd)))))))))),?_)
 generalize hK0:K=K1;generalize hK1:T1=T11;generalize hK2:T2=T21;generalize hK3:T3=T31
 revert T31
 revert T21
 revert T11
 revert K1
 show z95 #[] ?_;have no:∀{a b:Str},a≠b->decide (V.str a=V.str b)=false:=λ{a b} h=>by rw[j6];show wK h
 have yes:∀a:Str,decide (V.str a=V.str a)=true:=λa=>wN rfl
 have au:(refs rs).length=rs.length:=w9 _;have Bc:rs.length<=60:=by rw[<-J,w9]at ot;show ot
 have hd:=jy TT iQ;have X:∀x∈rs,x.2.length=(ze th r).length:=λx m=>jo TT iQ x.2 (by rw[<-J];show qx.mpr (x,m,rfl))
 have U:∀{n:Str},n∈ze th r->∀x∈rs,(ze th r).idxOf n<x.2.length:=λ{n} hn x m=>by rw[X x m];show qC.mpr hn
 cases q with
 | table n=>cases C
 | pair a b=>cases C
 | join x y a b=>cases C
 | both a b=>cases C
 | pick c q'=>
  cases (show q'=r from(List.cons.inj C).1);obtain⟨p,x,y,rfl,h1,h2,Y⟩:=hq;show !(zg h1 zH ?_);show !(rfl,!?_);show ifT (yes _) ?_;show !(rp,rfl,(_,SqL.of D.1),?_);show z0F (xs:=refs rs) (λi ys H'=>zw H H'/\ys=refs ((rs.take i).filter λz=>ev (ze th r) z.2 c)) (zw.refl _,rfl) ?_ ?_ ?_
  .rintro i ys H' hi ⟨u,rfl⟩;show(SqL.of (u _ _ D.1),zG ?_);have:=qz (λz:Addr×List Int=>ev (ze th r) z.2 c) (rs.take i);rw[w9];rw[wV]at this
   lia
  .rintro i z ys H' hi ⟨u,rfl⟩;have ac:i<rs.length:=by
    have:=(wg.mp hi).1
    rwa [au]at this
   rw[yb ac]at hi;cases hi;show !(zg (u _ _ h1) j8 (!(!(c,x,hp,rs[i].1,ze th r,rs[i].2,rfl,h2.same u,wf.1,by have:=wf.2.1;lia,SqL.of (u _ _ G),SqL.of (u _ _ (D.2 _ (wz ac)).2),(X _ (wz ac)).symm,λM B=>!?_))));have ft:=z17 (λz:Addr×List Int=>ev (ze th r) z.2 c) rs (we ac);cases hev:ev (ze th r) rs[i].2 c with
   | true=>
    show ifT rfl ?_;show !(u.trans B,?_);rw[ft,hev,qd rfl];simp[refs]
   | false=>
    show ifF rfl ?_;show(u.trans B,?_);rw[ft,hev];simp
  .rintro ys H' ⟨u,rfl⟩ np R;rw[au,qf];clear np R H2 n2 x2 np;have s2:=u.trans n2;show fin np _ H2 (Nt.of s2) (L.same s2) (yj R n2 x2 λr m=>u _ _ (D.2 r (Qr.mp m).1).2) ?_
   change _=(rowsOf th tr r).filter _
   rw[<-J,w00]
   rfl
 | cols ns q'=>
  cases (show q'=r from(List.cons.inj C).1);obtain⟨p,x,y,rfl,h1,h2,Y⟩:=hq;have sW:=wf.2.1;have de:ns.length<=100:=wY (zcM wf.1 sW) hd.2;show !(zg h1 zH ?_);show !(rfl,!?_);show ifF (no ()) ?_;show !(rfl,!?_);show ifT (yes _) ?_;show !(zg h1 j8 (x,rfl,(_,SqT.of h2),?_));show z3H (xs:=ns.map V.str) (λi ys H'=>H'=H/\ys=((ns.take i).map λn=>(ze th r).idxOf n).map λi:Nat=>V.int (i:Int)) (rfl,rfl) ?_ ?_ ?_
  .rintro i ys H' hi ⟨rfl,rfl⟩;show(SqT.of h2,zG (by rw[w9,w9,wV];lia))
  .rintro i z ys H' hi ⟨rfl,rfl⟩;have aV:i<ns.length:=by
    have:=(wg.mp hi).1
    rwa [w9]at this
   rw[wM,we aV]at hi;cases hi;have eD:=ji (sW _ (wz aV));show !(.inl (rfl,_,SqL.of G),!(hp,_,_,(ze th r).idxOf ns[i],rfl,rfl,SqL.of G,rfl,zV _,eD.1,eD.2,rfl,?_));rw[wR,we aV,wF,wF]
   rfl
  .rintro ys H' ⟨rfl,rfl⟩ sp aq;rw[w9,qf];clear sp aq H1 n1 x1 sp;have sX:=D.same n1;show !(rp,rfl,(_,SqL.of sX.1),?_);show jc (xs:=refs rs) (λj ys M=>zw H1 M/\∃ps:List (Addr×List Int),ys=refs ps/\(∀p∈ps,H1 p.1=none/\M p.1=some (.lst (p.2.map V.int)))/\ps.map (·.2)=(rs.take j).map λz=>ns.map λn=>z.2.getD ((ze th r).idxOf n) 0) (zw.refl _,[],rfl,λk z=>(nomatch z),rfl) ?_ ?_ ?_
   .rintro j ys M Z ⟨B,ps,rfl,O,e⟩;show(SqL.of (B _ _ sX.1),zG ?_);have:=Qd List.length e;rw[w9,w9,wV]at this;rw[w9]
    lia
   .rintro j z ys M Z ⟨B,ps,rfl,O,e⟩;have hU:j<rs.length:=by
     have:=(wg.mp Z).1
     rwa [au]at this
    rw[yb hU]at Z;cases Z;have hm:=wz hU;show !(!(rs[j].1,sp,rs[j].2,ns.map λn=>(ze th r).idxOf n,rfl,SqL.of (B _ _ (sX.2 _ hm).2),SqL.of (B _ _ x1),λi m=>?_,by rw[w9];lia,λnp H4 N af x4=>?_))
    .obtain⟨n,hn,rfl⟩:=qx.mp m;show U (sW n hn) _ hm
    .refine(B.trans N,ps++[(np,ns.map λn=>rs[j].2.getD ((ze th r).idxOf n) 0)],by simp[refs],λp hp=>?_,?_)
     .rcases wE.mp hp with hp|hp
      .exact((O p hp).1,N _ _ (O p hp).2)
      .rw [ww.mp hp];show(B.free af,?_);have e5:((ns.map λn=>(ze th r).idxOf n).map λi=>rs[j].2.getD i 0)=ns.map λn=>rs[j].2.getD ((ze th r).idxOf n) 0:=Qp
       rw[e5]at x4;show x4
     .rw [wF,e,wR,we hU,wF]
      rfl
   .rintro ys M ⟨B,ps,rfl,O,e⟩ np R;rw[au,qf]at e;clear np R H4 N x4 np;have s4:=n1.trans (B.trans N);show fin np ps H4 (Nt.of s4) (L.same s4) (yj R N x4 λr m=>(O r m).2) ?_
    change _=(rowsOf th tr r).map _
    rw[e,<-J,Qp]
    rfl
 | group a b n s q'=>
  cases (show q'=r from(List.cons.inj C).1);obtain⟨p,y,rfl,h1,Y⟩:=hq;show !(zg h1 zH ?_);show !(rfl,!?_);show ifF (no ()) ?_;show !(rfl,!?_);show ifF (no ()) ?_;show !(rfl,!?_);show ifT (yes _) ?_;have S:=ji wf.1;have ib:=ji wf.2.1;show !(!(.inl (rfl,_,SqL.of G),!(zg h1 j8 (hp,_,_,(ze th r).idxOf a,rfl,rfl,SqL.of G,rfl,zV _,S.1,S.2,!(.inl (rfl,_,SqL.of G),!(zg h1 jF (hp,_,_,(ze th r).idxOf b,rfl,rfl,SqL.of G,rfl,zV _,ib.1,ib.2,?_)))))));show(rp,rs,_,_,rfl,D,w1d _,w1d _,λr m=>(U wf.1 r m,U wf.2.1 r m,by rw[X r m];show hd.2),∅,λp qs H' s' aK e=>fin p qs H' (Nt.of s') (L.same s') aK ?_);rw[e,J,zaG]
  rfl
 | sort a q'=>
  cases (show q'=r from(List.cons.inj C).1);obtain⟨p,y,rfl,h1,Y⟩:=hq;show !(zg h1 zH ?_);show !(rfl,!?_);show ifF (no ()) ?_;show !(rfl,!?_);show ifF (no ()) ?_;show !(rfl,!?_);show ifF (no ()) ?_;show !(rfl,!?_);show ifT (yes _) ?_;have S:=ji wf.1;show !(!(.inl (rfl,_,SqL.of G),!(zg h1 j8 (hp,_,_,(ze th r).idxOf a,rfl,rfl,SqL.of G,rfl,zV _,S.1,S.2,?_))));show(rp,rs,_,rfl,D,w1d _,λr m=>(U wf.1 r m,by rw[X r m];show hd.2),∅,L.c,λp qs H' k' l' aK e=>fin p qs H' (z9c L.c k') (L.kp3 k' l') aK ?_);rw[zdk e,J]
  rfl
 | first n q'=>
  cases (show q'=r from(List.cons.inj C).1);obtain⟨p,y,rfl,h1,Y⟩:=hq;show !(zg h1 zH ?_);show !(rfl,!?_);show ifF (no ()) ?_;show !(rfl,!?_);show ifF (no ()) ?_;show !(rfl,!?_);show ifF (no ()) ?_;show !(rfl,!?_);show ifF (no ()) ?_;show !(!(zg h1 j8 (!(rp,!(SqL.of D.1,λl hl=>?_)))));rw[z1k wf.1,<-QZ];clear l hl H1 n1 x1 l;show fin l (rs.take n.toNat) H1 (Nt.of n1) (L.same n1) (yj hl n1 x1 λr m=>(D.2 r (QG m)).2) ?_
  change _=(rowsOf th tr r).take _
  rw[<-J,QZ]
inductive ARes (th:Str->List Str) (tr:Str->List (List Int)) (r:Qn) (v:V) (H:Hp):Prop
 | mk:∀(p hp rp:Addr) (rs:List (Addr×List Int)),v= .ref p->H p=some (.tup [.ref hp,.ref rp])->H hp=some (.lst ((ze th r).map V.str))->RowsAt H rp rs->rs.map (·.2)=rowsOf th tr r->ARes th tr r v H
theorem ARes.nt{v:V}(h:ARes th tr r v H)(k:Nt H H'):ARes th tr r v H':=by
 obtain⟨p,hp,rp,rs,e,h1,h2,a,b⟩:=h;show(p,hp,rp,rs,e,k.tup h1,k.lst h2,a.nt k,b)
inductive spR2 (K:W.Frag) (vs:List V) (H:Hp) (Q:VK) (E:XK):Prop
 | mk:∀th tr q r t v v1 v2,vs= [v,v1,v2]->TabOk th tr->QAt H q v->kids q= [r,t]->wfQ th q->wfQ th r->wfQ th t->ARes th tr r v1 H->ARes th tr t v2 H->kM th tr q->kM th tr r->kM th tr t->(∀(p:Addr) (qs:List (Addr×List Int)) (H':Hp),zw H H'->RowsAt H' p qs->qs.map (·.2)=rowsOf th tr q->Q (.ref p) H')->spR2 K vs H Q E
theorem z3B:FnScope ["question","first","second"] ["question","first","second"] (zi z0o):=by done
theorem z3P(F:Fun K "rows_over_two" "rows_over_two" z0o f fd)(T:Txt K mg)(j:Kn P w K mg base 1 "paired" ["rows","others"] (spPaired K))(i:Kn P w K mg base 1 "joined" ["rows","others","spot","place"] (spJoined K)):FnOk P w K mg base CX0 2 f fd ["question","first","second"] (spR2 K):=by
 clear z3B vs H Q E h F;obtain⟨th,tr,q,r,t,v,v1,v2,rfl,TT,hq,o,wf,L,X,a1,a2,Y,Z,st,fin⟩:=h;obtain⟨p1,aJ,N,G,rfl,f1,O,I,u⟩:=a1;obtain⟨p2,bf,J,D,rfl,f2,U,R2,C⟩:=a2;intro aa A outer sh hr;show(_,(zc (zB (cmT zO (ixT v0 zd) zn)
   (zf (zp (zo kF (ixT v1 zd) (ixT v2 zd))))
   zt)
  (zc (zB (cmT zO (ixT v0 zd) zn)
   (zf (zp (zS j hr.m (zl (ixT v1 zd) (zl (ixT v2 zd) zb)))))
   zt)
  (zf (zp (zS i hr.m (zl (ixT v1 zd) (zl (ixT v2 zd) (zK (kg wO qG qI yf (ixT v1 zd) (zl (ixT v0 zd) zb)) (zK (kg wO qG qI yf (ixT v2 zd) (zl (ixT v0 zd) zb)) zb))))))))),?_)
 generalize hK0:K=K1
 revert K1
 show jd #[] ?_;have no:∀{a b:Str},a≠b->decide (V.str a=V.str b)=false:=λ{a b} h=>by rw[j6];show wK h
 have yes:∀a:Str,decide (V.str a=V.str a)=true:=λa=>wN rfl
 have l1:G.length=(rowsOf th tr r).length:=by rw[<-u,w9]
 have l2:D.length=(rowsOf th tr t).length:=by rw[<-C,w9]
 have m1:=z4a Z;have m2:=z4a st;have d1:=jy TT L;have d2:=jy TT X;have w1:∀x∈G,x.2.length=(ze th r).length:=λx m=>jo TT L x.2 (by rw[<-u];show qx.mpr (x,m,rfl))
 have w2:∀x∈D,x.2.length=(ze th t).length:=λx m=>jo TT X x.2 (by rw[<-C];show qx.mpr (x,m,rfl))
 cases q with
 | table n=>cases o
 | pick c a=>cases o
 | cols ns a=>cases o
 | first n a=>cases o
 | sort n a=>cases o
 | group a b n s q=>cases o
 | both a b=>
  obtain⟨rfl,B⟩:=List.cons.inj o;obtain⟨rfl,_⟩:=List.cons.inj B;obtain⟨p,x,y,rfl,h1,h2,R⟩:=hq;show !(zg h1 zH (rfl,!?_));show ifT (yes _) ?_;show !(zg f1 j8 (!(zg f2 j8 (N,J,~~~(I.1,R2.1,jb (by rw[w9,w9];lia),λl hl=>?_)))));clear l hl H1 n1 x1 l;show fin l (G++D) H1 n1 (yj hl n1 (by rw[x1];simp[refs]) λz m=>?_) (by rw[wF,u,C];rfl);rcases wE.mp m with m|m
  .exact(I.2 z m).2
  .exact(R2.2 z m).2
 | pair a b=>
  obtain⟨rfl,B⟩:=List.cons.inj o;obtain⟨rfl,_⟩:=List.cons.inj B;obtain⟨p,x,y,rfl,h1,h2,R⟩:=hq;show !(zg h1 zH (rfl,!?_));show ifF (no ()) ?_;show !(zg h1 zH (rfl,!?_));show ifT (yes _) ?_;show !(zg f1 j8 (!(zg f2 j8 (N,J,G,D,rfl,I,R2,by rw[l1,l2];show Y.2.2,∅,λz m=>by rw[w1 z m];show d1.2,λz m=>by rw[w2 z m];show d2.2,λl qs H' s' M e=>fin l qs H' s' M (by rw[e,u,C];rfl)))))
 | join c d a b=>
  obtain⟨rfl,B⟩:=List.cons.inj o;obtain⟨rfl,_⟩:=List.cons.inj B;obtain⟨p,x,y,rfl,h1,h2,R⟩:=hq;show !(zg h1 zH (rfl,!?_));show ifF (no ()) ?_;show !(zg h1 zH (rfl,!?_));show ifF (no ()) ?_;have S:=ji wf.1;have id:=ji wf.2.1;show !(zg f1 j8 (!(zg f2 j8 (!(zg f1 zH (.inl (rfl,_,SqL.of O),!(zg h1 j8 (aJ,_,_,(ze th a).idxOf c,rfl,rfl,SqL.of O,rfl,zV _,S.1,S.2,!(zg f2 zH (.inl (rfl,_,SqL.of U),!(zg h1 jF (bf,_,_,(ze th b).idxOf d,rfl,rfl,SqL.of U,rfl,zV _,id.1,id.2,?_))))))))))));show(N,J,G,D,_,_,rfl,I,R2,w1d _,w1d _,λz m=>(by rw[w1 z m];show qC.mpr wf.1,by rw[w1 z m];show d1.2),λz m=>(by rw[w2 z m];show qC.mpr wf.2.1,by rw[w2 z m];show d2.2),∅,∅,λl qs H' s' M e=>fin l qs H' s' M ?_);rw[e,u,C];show zcE wf.1 wf.2.1 wf.2.2.1 (jo TT L)
inductive spRowsAt (K:W.Frag) (T1 T2 T3:Addr) (vs:List V) (H:Hp) (Q:VK) (E:XK):Prop
 | mk:∀th tr q v tp wl ws,vs= [.ref tp,v,.ref wl]->TabOk th tr->FourAt th tr H tp->QAt H q v->wfQ th q->kM th tr q->H wl=some (.lst ws)->z0c (ARes th tr) H (kids q) ws->Ls T1 T2 T3 H->(∀(p:Addr) (qs:List (Addr×List Int)) (H':Hp),Nt H H'->Ls T1 T2 T3 H'->RowsAt H' p qs->qs.map (·.2)=rowsOf th tr q->Q (.ref p) H')->spRowsAt K T1 T2 T3 vs H Q E
theorem z8Q:FnScope ["tables","question","within"] ["tables","question","within"] (zi z3W):=by done
theorem z8q(F:Fun K "rows_at" "rows_at" z3W f fd)(T:Txt K mg)(a:Kn P w K mg base 1 "rows_of_table" ["tables","name"] (spROT K))(c:Kn P w K mg base 4 "rows_over_one" ["question","heads","rows"] (spR1 K T1 T2 T3))(b:Kn P w K mg base 2 "rows_over_two" ["question","first","second"] (spR2 K)):FnOk P w K mg base CX0 5 f fd ["tables","question","within"] (spRowsAt K T1 T2 T3):=by
 clear z8Q vs H Q E h F;obtain⟨th,tr,q,v,tp,wl,ws,rfl,TT,X,hq,wf,G,d,rs,s,fin⟩:=h;intro aa A outer sh hr;show(_,(zc (zB (cmT zO (leN T.len (za v2 zb)) zd)
   (zf (zp (zS a hr.m (za v0 (zl (ixT v1 zd) zb)))))
   zt)
  (zc (zB (cmT zO (leN T.len (za v2 zb)) zd)
   (zf (zp (zS c hr.m (za v1 (zl (ixT (ixL v2 zd) zd) (zl (ixT (ixL v2 zd) zd) zb))))))
   zt)
  (zf (zp (zS b hr.m (za v1 (zl (ixL v2 zd) (zl (ixL v2 zd) zb)))))))),?_)
 generalize hK0:K=K1;generalize hK1:T1=T11;generalize hK2:T2=T21;generalize hK3:T3=T31
 revert T31
 revert T21
 revert T11
 revert K1
 show z95 #[] ?_;have B:=rs.len;have j:=z6X wf;have l:=z7V G;rcases zcN hq with⟨n,p,rfl,rfl,hp⟩|⟨r,p,w,xs,y,hk,rfl,hp,hy,aV,hw⟩|⟨r,t,p,w,xs,x,y,hk,rfl,hp,hx,hy,aV,hw⟩
 .have l0:ws.length=0:=B;show !(wl,!(.inl (SqL.of d),rfl,!?_));show ifT (by rw[l0];simp) ?_;show !(!(zg hp j8 (th,tr,tp,n,rfl,X,wf,λrp rs H' s' z e=>fin rp rs H' (Nt.of s') (s.same s') z e)))
 .rw [hk]at rs B j l;obtain⟨u,us,rfl,⟨Z,U,Y,R,rfl,f1,I,M,C⟩,o⟩:=rs;have L:us= []:=o;subst L;have i:r∈ [r]:=ww.mpr rfl;show !(wl,!(.inl (SqL.of d),rfl,!?_));show ifF (by simp) ?_;show !(wl,!(.inl (SqL.of d),rfl,!?_));show ifT (by simp) ?_;show !(!(zv d zH (zg f1 zH (!(zv d zH (zg f1 j8 (th,tr,q,r,.ref p,U,Y,R,rfl,TT,hq,hk,wf,j r i,I,M,C,z4a (l r i),s,fin)))))))
 .rw [hk]at rs B j l;obtain⟨u,us,rfl,C,J,O,rfl,o,N⟩:=rs;have S:O= []:=N;subst S;have i:r∈ [r,t]:=qy;have D:t∈ [r,t]:=wZ _ (ww.mpr rfl);show !(wl,!(.inl (SqL.of d),rfl,!?_));show ifF (by simp) ?_;show !(wl,!(.inl (SqL.of d),rfl,!?_));show ifF (by simp) ?_;show !(!(zv d zH (!(zv d j8 (th,tr,q,r,t,.ref p,u,J,rfl,TT,hq,hk,wf,j r i,j t D,C,o,G,l r i,l t D,λp qs H' s' z e=>fin p qs H' (Nt.of s') (s.same s') z e)))))
theorem z7n{th:Str->List Str}{tr:Str->List (List Int)}{H:Hp}:∀{qs:List Qn} {ws:List V},z0c (ARes th tr) H qs ws->∃hs:List Addr,hs.length=ws.length/\z0c (ze1 th) H qs (hs.map V.ref)/\∀(i:Nat) (v:V),ws[i]? =some v->∃(p h r:Addr),v=V.ref p/\H p=some (.tup [.ref h,.ref r])/\hs[i]? =some h
 | [],_,h=>by
  have e:_= []:=h;subst e;show([],rfl,rfl,λi v z=>by cases z)
 | q::qs,_,(v,us,e,(p,hp,rp,rs,ev,h1,h2,b,c),a)=>by
  obtain⟨hs,l1,r1,f1⟩:=z7n a;subst e;show(hp::hs,by rw[wP,wP,l1],(.ref hp,hs.map V.ref,rfl,(hp,rfl,h2),r1),λi u z=>?_);cases i with
  | zero=>cases z;show(p,hp,rp,ev,h1,rfl)
  | succ i=>show f1 i u (by simpa using z)
inductive spAnswerAt (K:W.Frag) (T1 T2 T3:Addr) (vs:List V) (H:Hp) (Q:VK) (E:XK):Prop
 | mk:∀th tr q v tp wl ws,vs= [.ref tp,v,.ref wl]->TabOk th tr->FourAt th tr H tp->QAt H q v->wfQ th q->kM th tr q->H wl=some (.lst ws)->z0c (ARes th tr) H (kids q) ws->Ls T1 T2 T3 H->(∀(v':V) (H':Hp),Nt H H'->Ls T1 T2 T3 H'->ARes th tr q v' H'->Q v' H')->spAnswerAt K T1 T2 T3 vs H Q E
def z0c.resN{qs:List Qn}(h:z0c (ARes th tr) H qs ws)(k:Nt H H'):z0c (ARes th tr) H' qs ws:=h.imp λv v z=>z.nt k
theorem z2B(q:Qn):(kids q).length<=2:=by cases q<;>simp[kids]
theorem z3s:FnScope ["tables","question","within","heads"] ["tables","question","within"] (zi z0V):=by done
theorem z6s(F:Fun K "answer_at" "answer_at" z0V f fd)(T:Txt K mg)(a:Kn P w K mg base 3 "heads_at" ["tables","question","within"] (spHeadsAt K))(b:Kn P w K mg base 5 "rows_at" ["tables","question","within"] (spRowsAt K T1 T2 T3)):FnOk P w K mg base CX0 6 f fd ["tables","question","within"] (spAnswerAt K T1 T2 T3):=by
 clear z3s vs H Q E h F;obtain⟨th,tr,q,v,tp,wl,ws,rfl,TT,d,hq,wf,y,c,rs,l,fin⟩:=h;obtain⟨hs,G,C,s⟩:=z7n rs;have M:=rs.len;have L:=z2B q;intro aa A outer J hr;show(_,(zc (seT 3 z3s (zS a hr.m (za v0 (za v1 (z0w (jB rfl (CompSc.of (sx:=zi z0V) (NX:= ["tables","question","within","heads"]) (fr:= []) (ix:= []) rfl rfl ()) (zT v2) (λk k k k k k=>jh) (λk k k k k k=>(yz (z09 (K:=K) rfl) v0 zd (λk k=>rfl)))) zb)))))
  (zf (zp (zD (za v3 (zK (zS b hr.m (za v0 (za v1 (za v2 zb)))) zb)))))),?_)
 generalize hK0:K=K1;generalize hK1:T1=T11;generalize hK2:T2=T21;generalize hK3:T3=T31
 revert T31
 revert T21
 revert T11
 revert K1
 show z95 #[] ?_;show !(!(!(wl,rfl,(_,SqL.of c),?_)));show jc (xs:=ws) (λi ys H'=>H'=H/\ys=(hs.take i).map V.ref) (rfl,rfl) ?_ ?_ ?_
 .rintro i ys H' hi ⟨rfl,rfl⟩;show(SqL.of c,zG (by rw[w9,wV];lia))
 .rintro i x ys H' hi ⟨rfl,rfl⟩;obtain⟨p,h,r,rfl,h1,h2⟩:=s i x hi;show !(zg h1 zH (rfl,?_));rw[wR,h2,wF]
  rfl
 .rintro ys H' ⟨rfl,rfl⟩ np D;rw[<-G,qf];clear np D H1 n1 x1 np;show(th,tr,q,v,tp,np,_,rfl,TT,d.same n1,hq.same n1,wf,x1,C.imp λr u ⟨hp,e,z⟩=>(hp,e,n1 _ _ z),λhp H2 t B=>?_);have n12:=n1.trans t;show !(!(!(!(th,tr,q,v,tp,wl,ws,rfl,TT,d.same n12,hq.same n12,wf,y,n12 _ _ c,rs.resN (Nt.of n12),l.same n12,λrp qs I j n o e=>?_))));clear ap hap H4 n4 x4;show fin _ H4 ((Nt.of n12).trans (j.trans (Nt.of n4))) (n.same n4) (ap,hp,rp,qs,rfl,x4,n4 _ _ (j.lst B),o.same n4,e)
inductive spPlain (K:W.Frag) (T1 T2 T3:Addr) (vs:List V) (H:Hp) (Q:VK) (E:XK):Prop
 | mk:∀th tr q v tp,vs= [.ref tp,v]->TabOk th tr->FourAt th tr H tp->QAt H q v->wfQ th q->kM th tr q->(post q).length<=8000000->Ls T1 T2 T3 H->(∀(v':V) (H':Hp),Nt H H'->Ls T1 T2 T3 H'->ARes th tr q v' H'->Q v' H')->spPlain K T1 T2 T3 vs H Q E
theorem z4j:FnScope ["tables","question"] ["tables","question"] (zi kG):=by done
theorem z4q{c:Addr}(F:Fun K "plain_answer" "plain_answer" kG f fd)(T:Txt K mg)(hc:fd.code= .ref c)(C:PySem.W.CodeHd base c T2)(B:base.BuiltinsAt mg T2)(i:Kn P w K mg base 10 "heads_of" ["tables","question"] (spHeadsOf K T1 T2 T3))(l:KnS P w K mg base CX0 9 "built_up" ["question","work"] (z4x P w K mg base 8))(d:Kn P w K mg base 6 "answer_at" ["tables","question","within"] (spAnswerAt K T1 T2 T3)):FnOk P w K mg base CX0 11 f fd ["tables","question"] (spPlain K T1 T2 T3):=by
 show F.okC z4j (λvs H Q E h=>?_) (λA outer s H vs Q E hr h=>?_)
 .obtain⟨th,tr,q,v,tp,rfl,_⟩:=h
  rfl
 obtain⟨th,tr,q,v,tp,rfl,TT,G,hq,wf,X,hsz,O,fin⟩:=h;show(_,(zc (j7 (z2h i hr rfl (za (pv 0) (za (pv 1) zb))))
  (zf (zp (z2X (k:=6) (T:=T2) (c:=c) (j:=0) (a:="place") (b:="within") (y:="tables") l z2N (hr.mono ()) rfl (pv 1) hc C B (rfl,rfl,rfl,rfl,rfl,rfl,(),(),()) (w0g rfl) rfl
  (λm m m m m m m m hl=>z2h d hl rfl (za (pv 2) (za (pv 0) (za (pv 1) zb)))))))),?_)
 show !(!(th,tr,q,v,tp,rfl,TT,G,hq,wf,hsz,O,λhp H1 L t x1=>?_));show !(t.b,.ref tp,rfl,λlf c' H2 s2 I U W=>?_);have p:=L.trans (z9c t.b I);have o:=t.kp2 I (.inr (c',U));show(v,q,lf,_,Ls T1 T2 T3,ARes th tr,rfl,hq.nt p,hsz,W.mono (),o,λH1 H2 e z=>z.same e,λr u H1 H2 n z=>z.nt n,λr x D wl ws H3 Z Y R N J rs k=>?_,λv' H' M S z=>fin v' H' (p.trans M) S z);show(D,.ref wl,rfl,!(!(!(th,tr,r,D,tp,wl,ws,rfl,TT,G.nt (p.trans Y),N,z6n wf r x,zbU X r x,J,rs,R,k))))
inductive spAgain (K:W.Frag) (vs:List V) (H:Hp) (Q:VK) (E:XK):Prop
 | mk:∀th tr tp,vs= [.ref tp]->TabOk th tr->FourAt th tr H tp->(∀(p:Addr) (H':Hp),zw H H'->FourAt th tr H' p->Q (.ref p) H')->spAgain K vs H Q E
theorem zci(h:i<4):tabs.getD i ""∈tabs:=by
 match i,h with
 | 0,_=>decide
 | 1,_=>decide
 | 2,_=>decide
 | 3,_=>decide
def zdy{P:List α->Prop}(h:∀a,P [a]):∀us:List α,us.length=1->P us
 | [a],_=>h a
def zb3{P:List α->Prop}(h:∀a b,P [a,b]):∀us:List α,us.length=2->P us
 | a::l,e=>zdy (P:=λl=>P (a::l)) (h a) l (Nat.succ.inj e)
def zdT{P:List α->Prop}(h:∀a b c,P [a,b,c]):∀us:List α,us.length=3->P us
 | a::l,e=>zb3 (P:=λl=>P (a::l)) (h a) l (Nat.succ.inj e)
def zfJ{P:List α->Prop}(h:∀a b c d,P [a,b,c,d]):∀us:List α,us.length=4->P us
 | a::l,e=>zdT (P:=λl=>P (a::l)) (h a) l (Nat.succ.inj e)
theorem zdC(h:H p=some (.lst ys))(hl:ys.length=4)(e:∀j,j<4->∃y,ys[j]? =some y/\TabAt th tr H y (tabs.getD j "")):FourAt th tr H p:=by
 obtain⟨a,b,c,d,rfl⟩:∃a b c d,ys= [a,b,c,d]:=zfJ (P:=λys=>∃a b c d,ys= [a,b,c,d]) (λv v v v=>(_,_,_,_,rfl)) ys hl
 obtain⟨_,f,q⟩:=e 0 ();obtain⟨_,s,l⟩:=e 1 ();obtain⟨_,i,r⟩:=e 2 ();obtain⟨_,o,n⟩:=e 3 ();cases f;cases s;cases i;cases o;show(a,b,c,d,h,q,l,r,n)
theorem z5w:FnScope ["_law_tables"] ["_law_tables"] (zi ku):=by done
theorem z5D(F:Fun K "_law_again" "_law_again" ku f fd)(T:Txt K mg):FnOk P w K mg base CX0 1 f fd ["_law_tables"] (spAgain K):=by
 clear z5w vs H Q E h F;obtain⟨th,tr,tp,rfl,TT,h4,fin⟩:=h;obtain⟨vs,X,L,eP⟩:=z6D h4;intro aa A outer sh hr;show(_,(zf (zp (jB rfl (CompSc.of (sx:=zi ku) (NX:= ["_law_tables"]) (fr:= []) (ix:= []) rfl rfl ()) (zT v0) (λk k k k k k=>jh) (λk k k k k k=>(zD (zl (yz (z09 (K:=K) rfl) v0 zd (λk k=>rfl)) (zK (jj (z2H (K:=K) rfl) rfl T.list qE (zl (yz (z09 (K:=K) rfl) v0 zd (λk k=>rfl)) zb)) (z0w (jB rfl (CompSc.of2 (sx:=zi ku) (NX:= ["_law_one"]) (fr:= []) (ix:= []) rfl rfl ()) (z7p (K:=K) rfl (yz (z09 (K:=K) rfl) v0 zd (λk k=>rfl))) (λk k k k k k=>jh) (λk k k k k k=>(jj (z2H (K:=K) rfl) rfl T.list qE (za v0 zb)))) zb)))))))),?_);generalize hK0:K=K1
 revert K1
 show jd #[] ?_;show !(tp,rfl,(_,SqL.of X),?_);show jc (xs:=vs) (λi ys H'=>zw H H'/\ys.length=i/\∀j,j<i->∃y,ys[j]? =some y/\TabAt th tr H' y (tabs.getD j "")) (zw.refl _,rfl,λj z=>absurd z (Nat.not_lt_zero _)) ?_ ?_ ?_
 .rintro i ys H' hi ⟨b,hl,_⟩;show(SqL.of (b _ _ X),zG (by rw[hl];lia))
 .rintro i x ys H' hi ⟨b,hl,o⟩;have G:i<4:=by rw[<-L];show(wg.mp hi).1
  obtain⟨v,S,p,hp,rp,rs,rfl,J,t2,Z,D⟩:=eP i G;rw[hi]at S;cases S;have Y:=z9j TT _ (zci G);have g9:rs.length<=60:=by rw[<-D,w9]at Y;show Y
  have u:(refs rs).length=rs.length:=w9 _;have O:=b _ _ J;show !(zg O zH (!(zg O j8 (hp,!(.inl (SqL.of (b _ _ t2)),λl lh=>?_)))));clear l lh H1 n1 x1 l;have s1:=b.trans n1;have B:=Z.same s1;show !(zg (s1 _ _ J) jF (rp,rfl,(_,SqL.of B.1),?_));show jc (xs:=refs rs) (λj zs d=>zw H1 d/\∃qs:List (Addr×List Int),zs=refs qs/\qs.length=j/\(∀r∈qs,H1 r.1=none/\d r.1=some (.lst (r.2.map V.int)))/\qs.map (·.2)=(rs.take j).map (·.2)) (zw.refl _,[],rfl,rfl,λk z=>(nomatch z),rfl) ?_ ?_ ?_
  .rintro j zs d a ⟨c,qs,rfl,hq,_⟩;rw[u]at a;show(SqL.of (c _ _ B.1),zG (by rw[w9];lia))
  .rintro j y zs d a ⟨c,qs,rfl,hq,q,n⟩;have C:j<rs.length:=by
    have:=(wg.mp a).1
    rwa [u]at this
   rw[yb C]at a;cases a;show !(_,!(.inl (SqL.of (c _ _ (B.2 _ (wz C)).2)),λl2 M=>?_));have R:=zz M (.lst (rs[j].2.map V.int));show(c.trans R,qs++[(l2,rs[j].2)],by simp[refs],by rw[wm,hq];rfl,λr m=>?_,?_)
   .rcases wE.mp m with m|m
    .exact((q r m).1,R _ _ (q r m).2)
    .rw [ww.mp m];show(c.free M,zh)
   .rw [wF,n,wR,we C,wF]
    rfl
  .rintro zs d ⟨c,qs,rfl,hq,q,n⟩ s N;rw[u,qf]at n;clear s N H4 n4 x4 s;clear tp2 htp2 H5 n5 x5;have I:=c.trans (n4.trans n5);have U:=n1.trans I;show(b.trans U,by rw[wm,hl];rfl,λj a=>?_);by_cases p6:j<i
   .obtain⟨y,t,ty⟩:=o j p6;show(y,by rw[qY ∅];show t,ty.same U)
   .have e:j=i:=by lia
    subst e;show(_,by rw[qW ∅,hl,w1V];rfl,tp2,l,s,qs,rfl,x5,I _ _ x1,(yj N n4 x4 λr m=>(q r m).2).same n5,by rw[n];show D)
 .rintro ys H' ⟨b,hl,o⟩ np ag;rw[L]at hl o;clear np ag H1 n1 x1 np;show fin np H1 (b.trans n1) (zdC x1 hl λj a=>?_);obtain⟨y,t,ty⟩:=o j a;show(y,t,ty.same n1)
inductive spAnswers (K:W.Frag) (vs:List V) (H:Hp) (Q:VK) (E:XK):Prop
 | mk:∀th tr q v hp rp rs,vs= [v,.ref hp,.ref rp]->ARes th tr q v H->H hp=some (.lst ((ze th q).map V.str))->RowsAt H rp rs->rs.map (·.2)=rowsOf th tr q->(ze th q).length<=100->(rowsOf th tr q).length<=60->(∀r∈rowsOf th tr q,r.length<=100)->Q (.bl true) H->spAnswers K vs H Q E
theorem z4h:FnScope ["_law_found","_law_heads","_law_rows"] ["_law_found","_law_heads","_law_rows"] (zi z0M):=by done
theorem z4m(F:Fun K "_law_answers" "_law_answers" z0M f fd)(T:Txt K mg)(b:Kn P w K mg base 1 "_law_texts" ["_law_found","_law_due"] (spTexts K))(a:Kn P w K mg base 3 "_law_alike" ["_law_found","_law_due"] (spAlike K)):FnOk P w K mg base CX0 4 f fd ["_law_found","_law_heads","_law_rows"] (spAnswers K):=by
 clear z4h vs H Q E h F;obtain⟨th,tr,q,v,hp,rp,rs,rfl,⟨p,s,t,n,rfl,f1,e,i,c⟩,j,o,l,l1,l2,d,fin⟩:=h;intro aa A outer u hr;show(_,(zc (zB (z1u (jJ (zX (zF zI rfl T.isinstance wI (za v0 (za (zY (v:= .ty "tuple") rfl T.tuple qZ rfl) zb))))) (cmT z0R (leN T.len (za v0 zb)) zd))
   (zf (zp jv))
   zt)
  (zf (zp (zfv (zS b hr.m (zl (ixT v0 zd) (za v1 zb))) (zfw (zS a hr.m (zl (ixT v0 zd) (za v2 zb)))))))),?_)
 generalize hK0:K=K1
 revert K1
 show jd #[] ?_;show !(_,_,_,!(TyOf.tup f1,jr,!(_,(!(p,!(.inr (SqT.of f1),rfl,!(rfl,rfl)))),?_)));show ifF (by rfl) ?_;show !(zg f1 zH (!(s,hp,_,rfl,e,SqL.of j,∅,!?_)));show ifT rfl ?_;show !(zg f1 j8 (!(t,rp,n,rs,rfl,i,o,by rw[c,l],by rw[<-c,w9]at l2;lia,λr m=>by have:=d r.2 (by rw[<-c];show qx.mpr (r,m,rfl));lia,fin)))
theorem z3u(h:∀s∈c.cols,s∈hs):c.ok hs:=by
 have side:∀{a:Side},(∀s∈a.cols,s∈hs)->a.ok hs:=λ{a} h=>by
  cases a with
  | nm x=>show h x (ww.mpr rfl)
  | nu i=>trivial
 induction c with
 | less a b=>show(side λs m=>h s (q5 _ m),side λs m=>h s (wC _ m))
 | same a b=>show(side λs m=>h s (q5 _ m),side λs m=>h s (wC _ m))
 | no c j=>show j h
 | an c d e f=>show(e λs m=>h s (q5 _ m),f λs m=>h s (wC _ m))
 | or c d e f=>show(e λs m=>h s (q5 _ m),f λs m=>h s (wC _ m))
theorem z6T{gs:List Str}{r t:List Int}(h:∀s∈c.cols,r.getD (hs.idxOf s) 0=t.getD (gs.idxOf s) 0):ev hs r c=ev gs t c:=by
 have side:∀{a:Side},(∀s∈a.cols,r.getD (hs.idxOf s) 0=t.getD (gs.idxOf s) 0)->num hs r a=num gs t a:=λ{a} h=>by
  cases a with
  | nm x=>show h x (ww.mpr rfl)
  | nu i=>rfl
 induction c with
 | less a b=>simp only[ev,side λs m=>h s (q5 _ m),side λs m=>h s (wC _ m)]
 | same a b=>simp only[ev,side λs m=>h s (q5 _ m),side λs m=>h s (wC _ m)]
 | no c j=>simp only[ev,j h]
 | an c d e f=>simp only[ev,e λs m=>h s (q5 _ m),f λs m=>h s (wC _ m)]
 | or c d e f=>simp only[ev,e λs m=>h s (q5 _ m),f λs m=>h s (wC _ m)]
theorem z9S{y:List Int}(ok:c.ok hq)(a:x.length=hq.length):ev (hq++hr) (x++y) c=ev hq x c:=
 z6T λs m=>by
  have hs:=z2l ok s m;have hl:=qC.mpr hs;rw[List.idxOf_append,qd hs,wn,wn,qY ∅]
theorem z7D{y:List Int}(a:∀n∈hq,n∉hr)(ok:c.ok hr)(b:x.length=hq.length):ev (hq++hr) (x++y) c=ev hr y c:=
 z6T λs m=>by
  have hs:=z2l ok s m;rw[List.idxOf_append,wW λz=>a s z hs,wn,wn,qW ∅,b,w1c]
theorem zdf{r:List Int}(ok:c.ok ns):ev ns (ns.map λn=>r.getD (hs.idxOf n) 0) c=ev hs r c:=
 z6T λs m=>by
  have hm:=z2l ok s m;have hl:=qC.mpr hm;rw[wn,wM,we hl,List.getElem_idxOf]
  rfl
theorem z22{key:List Int->Int}:∀{L M:List (List Int)},L.Pairwise (λa b=>key a<=key b)->M.Pairwise (λa b=>key a<=key b)->(∀k,L.filter (λr=>decide (key r=k))=M.filter λr=>decide (key r=k))->L=M
 | [],[],_,_,_=>rfl
 | [],b::M,_,_,h=>by
  have:=h (key b);rw[Q5 (by simp)]at this;cases this
 | a::L,[],_,_,h=>by
  have:=h (key a);rw[Q5 (by simp)]at this;cases this
 | a::L,b::M,p,q,h=>by
  have lo:∀{x y:List Int} {N:List (List Int)},(y::N).Pairwise (λa b=>key a<=key b)->key x<key y->(y::N).filter (λr=>decide (key r=key x))= []:=λ{x y N} p d=>by
   show w19.mpr λr m=>?_
   rcases wL.mp m with rfl|m
   .simp;lia
   .have:=(List.pairwise_cons.mp p).1 r m;simp;lia
  have c:key a=key b:=by
   rcases Int.lt_trichotomy (key a) (key b)with z|z|z
   .have:=h (key a);rw[lo q z,Q5 (by simp)]at this;cases this
   .exact z
   .have:=h (key b);rw[lo p z,Q5 (by simp)]at this;cases this
  have e:a=b:=by
   have:=h (key a);rw[Q5 (by simp),Q5 (by simp[c])]at this;show(List.cons.inj this).1
  subst e;rw[z22 (List.pairwise_cons.mp p).2 (List.pairwise_cons.mp q).2 λk=>?_];have:=h k;by_cases br:key a=k
  .rw [Q5 (by simp[br]),Q5 (by simp[br])]at this;show(List.cons.inj this).2
  .rw [w14 (by simp[br]),w14 (by simp[br])]at this;show this
theorem z3i(s:Nat)(rows:List (List Int)):(ke s rows).Pairwise λa b=>a.getD s 0<=b.getD s 0:=by
 unfold ke;rw[List.pairwise_map];show(z8l _ _).imp λ{i j} h=>?_
 have:=qD h;unfold z36 at this
 lia
theorem zaq(rows:List (List Int)):(List.range rows.length).map (λi=>rows.getD i [])=rows:=by
 apply List.ext_getElem
 .simp
 .intro i h1 h2;simp at h1;simp[wn,h1]
theorem z3S(s:Nat)(rows:List (List Int))(k:Int):(ke s rows).filter (λr=>decide (r.getD s 0=k))=rows.filter λr=>decide (r.getD s 0=k):=by
 unfold ke;rw[w00];have e:(z2Y (z36 rows s) rows.length).filter ((λr:List Int=>decide (r.getD s 0=k)) ∘ λi=>rows.getD i [])=(List.range rows.length).filter ((λr:List Int=>decide (r.getD s 0=k)) ∘ λi=>rows.getD i []):=by
  show List.Perm.eq_of_pairwise (le:=λi j=>i<=j) (λa b v v h1 h2=>Nat.le_antisymm h1 h2) ?_ ?_ ((z0U _ _).filter _)
  .have:=((z8l (z36 rows s) rows.length).filter ((λr:List Int=>decide (r.getD s 0=k)) ∘ λi=>rows.getD i []));show List.Pairwise.imp_of_mem (λ{i j} hi c h=>?_) this;have h:=qD h;have hi:(rows.getD i []).getD s 0=k:=qD (Qr.mp hi).2;have c:(rows.getD j []).getD s 0=k:=qD (Qr.mp c).2;unfold z36 at h
   lia
  .exact((List.pairwise_lt_range (n:=rows.length)).imp λh=>w1D h).filter _
 rw[e,<-w00,zaq]
theorem z6B(s:Nat)(rows:List (List Int))(p:List Int->Bool):(ke s rows).filter p=ke s (rows.filter p):=
 z22 (key:=λr=>r.getD s 0) ((z3i s rows).filter p) (z3i s _) λk=>by
  rw[z3S,w1e,w1e];have c:∀l:List (List Int),(l.filter λr=>decide (r.getD s 0=k)&&p r)=(l.filter λr=>decide (r.getD s 0=k)).filter p:=λl=>by
   rw[w1e];show w0w λv v=>Bool.and_comm _ _
  rw[c,c,z3S]
theorem z8K(s:Nat)(rows:List (List Int)):ke s (ke s rows)=ke s rows:=
 z22 (key:=λr=>r.getD s 0) (z3i s _) (z3i s _) λk=>by rw[z3S]
theorem z52{xs ys:List (List Int)}{p q:List Int->Bool}(h:∀x∈xs,∀y∈ys,p (x++y)=q x):(pairs xs ys).filter p=pairs (xs.filter q) ys:=by
 unfold pairs
 induction xs with
 | nil=>rfl
 | cons x xs b=>
  rw[QU,w0J,b λz hz=>h z (wZ _ hz),w00];have e:ys.filter (p ∘ λy=>x++y)=ys.filter λv=>q x:=w0w λy a=>h x qy y a
  rw[e];cases hq:q x with
  | true=>rw[Q5 hq,QU,List.filter_eq_self.mpr λv v=>rfl]
  | false=>rw[w14 (by simp[hq]),w19.mpr λv v=>by simp];rfl
theorem z3Z{xs ys:List (List Int)}{p q:List Int->Bool}(h:∀x∈xs,∀y∈ys,p (x++y)=q y):(pairs xs ys).filter p=pairs xs (ys.filter q):=by
 unfold pairs
 induction xs with
 | nil=>rfl
 | cons x xs b=>
  rw[QU,w0J,b λz hz=>h z (wZ _ hz),w00,QU]
  congr 2
  show w0w λy a=>h x qy y a
noncomputable def yM(ns hs:List Str):Bool:=ns.all λn=>decide (n∈hs)
theorem yv:yM ns hs=true↔∀n∈ns,n∈hs:=by simp[yM]
noncomputable def kO(th:Str->List Str)(x y:Str)(q r:Qn):Qn:=if x∈ze th q then .join x y q r else .join y x q r
noncomputable def yO(th:Str->List Str)(c:Cond)(mk:Qn->Qn->Qn)(a:Bool)(q r:Qn):Option Qn:=
 if yM c.cols (ze th q)=true then some (mk (.pick c q) r)
 else if yM c.cols (ze th r)=true then some (mk q (.pick c r))
 else match a,c with
  | true,.same (.nm x) (.nm y)=>some (kO th x y q r)
  | _,_=>none
noncomputable def z9F(th:Str->List Str)(c:Cond):Qn->Option Qn
 | .sort a q=>some (.sort a (.pick c q))
 | .cols ns q=>some (.cols ns (.pick c q))
 | .both q r=>some (.both (.pick c q) (.pick c r))
 | .pair q r=>yO th c .pair true q r
 | .join a b q r=>yO th c (.join a b) false q r
 | _=>none
noncomputable def yy(th:Str->List Str)(c:Cond)(q:Qn):Option Qn:=
 match c with
 | .an a b=>some (.pick a (.pick b q))
 | c=>z9F th c q
noncomputable def beneath:Qn->Qn
 | .pick _ q=>beneath q
 | q=>q
noncomputable def zam:Cond->Bool
 | .an _ _=>true
 | _=>false
noncomputable def kr(th:Str->List Str):Qn->Option Qn
 | .pick c q=>match q with
  | .pick d r=>if zam c=true then yy th c (.pick d r)else if(yy th c (beneath r)).isSome=true then some (.pick d (.pick c r))else none
  | q=>yy th c q
 | .first n q=>match q with
  | .first m r=>some (.first (min n m) r)
  | .cols ns r=>some (.cols ns (.first n r))
  | _=>none
 | .cols ns q=>match q with
  | .cols _ r=>some (.cols ns r)
  | _=>none
 | .sort a q=>match q with
  | .sort b r=>if b=a then some (.sort b r)else none
  | _=>none
 | _=>none
structure Eqv(th:Str->List Str)(tr:Str->List (List Int))(q q':Qn):Prop where
 h:ze th q'=ze th q
 r:rowsOf th tr q'=rowsOf th tr q
 wf:wfQ th q'
 sub:kM th tr q->kM th tr q'
inductive Prt (th:Str->List Str) (c:Cond) (mk:Qn->Qn->Qn) (b:Bool) (q r:Qn):Qn->Prop
 | l:yM c.cols (ze th q)=true->Prt th c mk b q r (mk (.pick c q) r)
 | r:yM c.cols (ze th r)=true->Prt th c mk b q r (mk q (.pick c r))
 | j:∀x y:Str,b=true->¬yM c.cols (ze th q)=true->¬yM c.cols (ze th r)=true->c= .same (.nm x) (.nm y)->Prt th c mk b q r (kO th x y q r)
theorem z2i(e:yO th c mk b q r=some q'):Prt th c mk b q r q':=by
 unfold yO at e;split at e
 .cases e;show .l ‹_›
 .split at e
  .cases e;show .r ‹_›
  .split at e<;>cases e
   show .j _ _ rfl ‹_› ‹_› rfl
theorem z2w(e:yy th c q=some q'):(∃a b,c= .an a b/\q'= .pick a (.pick b q))\/z9F th c q=some q':=by
 cases c with
 | an a b=>cases e;show .inl (_,_,rfl,rfl)
 | _=>show .inr e
inductive Trn (th:Str->List Str):Qn->Qn->Prop
 | s:∀c r q',yy th c r=some q'->Trn th (.pick c r) q'
 | p:∀c d r,(yy th c (beneath r)).isSome=true->Trn th (.pick c (.pick d r)) (.pick d (.pick c r))
 | f:∀n m r,Trn th (.first n (.first m r)) (.first (min n m) r)
 | c:∀n l r,Trn th (.first n (.cols l r)) (.cols l (.first n r))
 | l:∀l m r,Trn th (.cols l (.cols m r)) (.cols l r)
 | o:∀a r,Trn th (.sort a (.sort a r)) (.sort a r)
theorem z3r(e:kr th q=some q'):Trn th q q':=by
 cases q with
 | pick c r=>
  cases r with
  | pick d r=>
   unfold kr at e;dsimp only at e;split at e
   .exact .s _ _ _ e
   .split at e<;>cases e
    show .p _ _ _ ‹_›
  | _=>show .s _ _ _ e
 | sort a r=>
  cases r with
  | sort b r=>
   unfold kr at e;dsimp only at e;split at e<;>cases e
   subst b;show .o _ _
  | _=>cases e
 | first n r|cols n r=>cases r<;>cases e<;>constructor
 | _=>cases e
theorem zf5(X:List (List Int))(p s:List Int->Bool):(X.filter p).filter s=(X.filter s).filter p:=by
 simp only[w1e,Bool.and_comm]
theorem zbm(T:TabOk th tr)(sz:c.size<=20)(j:c.ok (ze th q++ze th r))(w:wfQ th (.pair q r))(e:yO th c .pair true q r=some q'):Eqv th tr (.pick c (.pair q r)) q':=by
 obtain⟨d,l,b,f⟩:=w;have i:=jo T b;rcases z2i e with h1|h2|⟨x,y,_,h1,h2,rfl⟩
 .have ok:=z3u (yv.mp h1);show(rfl,(z52 λx a y v=>z9S ok (i x a)).symm,(d,l,(ok,sz,b),f),λs=>(s.1,s.2.1,wY (QJ _ (qz _ _)) s.2.2))
 .have ok:=z3u (yv.mp h2);show(rfl,(z3Z λx a y v=>z7D d ok (i x a)).symm,(d,l,b,(ok,sz,f)),λs=>(s.1,s.2.1,wY (QR _ (qz _ _)) s.2.2))
 .have a:=wE.mp (show x∈_ from j.1);have h:=wE.mp (show y∈_ from j.2);simp only[yv,Cond.cols,Side.cols,wE,ww,forall_eq_or_imp,forall_eq]at h1 h2;unfold kO;by_cases hq:x∈ze th q
  .rw [qd hq];show(rfl,rfl,(hq,h.resolve_left λz=>h1 (hq,z),d,l,b,f),λs=>s)
  .rw [wW hq];have a:=a.resolve_left hq;show(rfl,w0w λz v=>w1s.mpr (Eq.symm,Eq.symm),(h.resolve_right λz=>h2 (a,z),a,d,l,b,f),λs=>s)
theorem zav(T:TabOk th tr){a b:Str}(sz:c.size<=20)(p:wfQ th (.join a b q r))(e:yO th c (.join a b) false q r=some q'):Eqv th tr (.pick c (.join a b q r)) q':=by
 obtain⟨ha,n,i,l,f,o⟩:=p;have j:=jo T f;rcases z2i e with h1|h2|⟨_,_,h⟩
 .have ok:=z3u (yv.mp h1);show(rfl,((zf5 _ _ _).trans (Qd (List.filter _) (z52 λx d y v=>z9S ok (j x d)))).symm,(ha,n,i,l,(ok,sz,f),o),λs=>(s.1,s.2.1,wY (QJ _ (qz _ _)) s.2.2))
 .have ok:=z3u (yv.mp h2);show(rfl,((zf5 _ _ _).trans (Qd (List.filter _) (z3Z λx d y v=>z7D i ok (j x d)))).symm,(ha,n,i,l,f,(ok,sz,o)),λs=>(s.1,s.2.1,wY (QR _ (qz _ _)) s.2.2))
 .cases h
theorem zbG(T:TabOk th tr)(w:wfQ th (.pick c q))(e:yy th c q=some q'):Eqv th tr (.pick c q) q':=by
 obtain⟨f,sz,d⟩:=w;rcases z2w e with⟨a,b,rfl,rfl⟩|e
 .have h:a.size<=20/\b.size<=20:=by simp only[Cond.size]at sz;lia
  show(rfl,w1e,(f.1,h.1,f.2,h.2,d),λs=>s)
 cases q with
 | sort a r=>cases e;show(rfl,(z6B _ _ _).symm,(d.1,f,sz,d.2),λs=>s)
 | cols ns r=>
  cases e;show(rfl,?_,(d.1,d.2.1,z3u λs m=>d.2.1 s (z2l f s m),sz,d.2.2),λs=>s)
  change List.map _ (List.filter _ _)=List.filter _ (List.map _ _)
  rw[w00]
  congr 1
  show w0w λx v=>(zdf f).symm
 | both r s=>
  cases e;have i:c.ok (ze th r):=f;show(rfl,?_,(d.1,(i,sz,d.2.1),(d.1 ▸ i,sz,d.2.2)),λz=>(z.1,z.2.1,wY (Nat.add_le_add (qz _ _) (qz _ _)) z.2.2));simp only[rowsOf,ze,w0J,d.1]
 | pair r s=>show zbm T sz f d e
 | join a b r s=>show zav T sz d e
 | _=>cases e
theorem z4S(T:TabOk th tr)(w:wfQ th q)(e:kr th q=some q'):Eqv th tr q q':=by
 rcases z3r e with⟨c,r,_,f⟩|⟨c,d,r,_⟩|⟨n,m,r⟩|⟨n,l,r⟩|⟨l,m,r⟩|⟨a,r⟩
 .exact zbG T w f
 .exact(rfl,zf5 _ _ _,(w.2.2.1,w.2.2.2.1,w.1,w.2.1,w.2.2.2.2),λs=>s)
 .have hn:0<=n:=w.1;have hm:0<=m:=w.2.1;show(rfl,?_,(∅,w.2.2),λs=>s)
  change List.take _ _=List.take _ (List.take _ _)
  rw[List.take_take]
  congr 1
  lia
 .exact(rfl,QZ,(w.2.1,w.2.2.1,w.1,w.2.2.2),λs=>s)
 .refine(rfl,?_,(w.1,λn m=>w.2.2.2.1 n (w.2.1 n m),w.2.2.2.2),λs=>s)
  change List.map _ _=List.map _ (List.map _ _)
  rw[Qp];show Qy λx v=>Qy λn hn=>?_
  have hm:n∈m:=w.2.1 n hn;have hl:=qC.mpr hm
  change _=(m.map _).getD (m.idxOf n) 0
  rw[wn (l:=m.map _),wM,we hl,List.getElem_idxOf]
  rfl
 .exact(rfl,(z8K _ _).symm,w.2,λs=>s)
def nf(th:Str->List Str)(q:Qn):Prop:=∀r∈post q,kr th r=none
theorem z4Q(h:∀c r,q≠ .pick c r):beneath q=q:=by
 cases q with
 | pick c q=>show absurd rfl (h c q)
 | _=>rfl
theorem zap(h:zam c=true):(yy th c q).isSome=true:=by
 cases c<;>first|rfl|cases h
theorem zcX{d:Cond}(h:kr th (.pick d r)=none):(yy th d (beneath r)).isSome=false:=by
 cases r with
 | pick e s=>
  unfold kr at h;dsimp only at h;split at h
  .next a=>
   have:=zap (th:=th) (q:= .pick e s) a;rw[h]at this;cases this
  .split at h
   .cases h
   .exact QD.mpr ‹_›
 | _=>
  have h:yy th d _=none:=h;rw[z4Q (by intro c r e;cases e),h]
  rfl
noncomputable def zN:Qn->Nat->Qn->Qn
 | .table n,_,_=> .table n
 | .pick c _,_,k=> .pick c k
 | .cols ns _,_,k=> .cols ns k
 | .pair q r,i,k=>if i=0 then .pair k r else .pair q k
 | .join a b q r,i,k=>if i=0 then .join a b k r else .join a b q k
 | .both q r,i,k=>if i=0 then .both k r else .both q k
 | .first n _,_,k=> .first n k
 | .group a b n s _,_,k=> .group a b n s k
 | .sort a _,_,k=> .sort a k
theorem set_same{p k:Qn}(a:(kids p)[i]? =some k):zN p i k=p:=by
 cases p<;>rcases i with _|_|i<;>cases a<;>rfl
theorem z2m{p k:Qn}(h:i<(kids p).length):kids (zN p i k)=(kids p).set i k:=by
 cases p<;>rcases i with _|_|i<;>first|rfl|(simp only[kids,wP,QN]at h;lia)
theorem set_set{p k l:Qn}(h:i<(kids p).length):zN (zN p i k) i l=zN p i l:=by
 cases p<;>rcases i with _|_|i<;>rfl
theorem z6q{p k:Qn}(h:i<(kids p).length):(kids (zN p i k))[i]? =some k:=by
 rw[z2m h,w17 h]
theorem Eqv.trans{s:Qn}(a:Eqv th tr q r)(b:Eqv th tr r s):Eqv th tr q s:=(b.h.trans a.h,b.r.trans a.r,b.wf,λz=>b.sub (a.sub z))
def Eqv.refl(w:wfQ th q):Eqv th tr q q:=(rfl,rfl,w,λz=>z)
theorem z3F{p k l:Qn}(e:ze th k=ze th l):ze th (zN p i k)=ze th (zN p i l):=by
 cases p<;>rcases i with _|i<;>simp[zN,ze,e]
theorem zdx{p k:Qn}(w:wfQ th p)(c:(kids p)[i]? =some k)(E:Eqv th tr k k'):Eqv th tr p (zN p i k'):=by
 obtain⟨a,b,d,es⟩:=E;cases p<;>rcases i with _|_|i<;>cases c<;>simp only[wfQ]at w<;>show(by simp[zN,ze,a],by simp[zN,rowsOf,a,b],by simp_all[zN,wfQ],by simp_all[zN,kM])
theorem zgv(e:kr th q=none)(h:∀k∈kids q,nf th k):nf th q:=λr m=>by
 rw[z0H]at m;rcases wE.mp m with m|m
 .obtain⟨k,a,m⟩:=List.mem_flatMap.mp m;show h k a r m
 .rw [ww.mp m];show e
noncomputable def plug:List (Qn×Nat)->Qn->Qn
 | [],q=>q
 | (p,i)::c,q=>plug c (zN p i q)
def z0s(th:Str->List Str):List (Qn×Nat)->Qn->Prop
 | [],_=>True
 | (p,i)::c,q=>i<(kids p).length/\ze th (zN p i q)=ze th p/\z0s th c (zN p i q)
def z5G:∀{c:List (Qn×Nat)} {q q':Qn},ze th q'=ze th q->z0s th c q->z0s th c q'
 | [],_,_,_,_=>trivial
 | (p,i)::c,_,_,e,h=>(h.1,(z3F e).trans h.2.1,z5G (z3F e) h.2.2)
theorem zcd{c:List (Qn×Nat)}{p k:Qn}(a:(kids p)[i]? =some k)(h:z0s th c p):z0s th ((p,i)::c) k:=
 ((wg.mp a).1,by rw[set_same a],by rw[set_same a];show h)
theorem zaI{c:List (Qn×Nat)}{p k:Qn}(a:(kids p)[i]? =some k):plug ((p,i)::c) k=plug c p:=by
 change plug c (zN p i k)=_
 rw[set_same a]
def z2s:∀{c:List (Qn×Nat)} {q:Qn},z0s th c q->wfQ th (plug c q)->wfQ th q
 | [],_,_,w=>w
 | (p,i)::c,q,h,w=>z6X (z2s h.2.2 w) q (qN (z6q h.1))
theorem z78:∀{c:List (Qn×Nat)} {q q':Qn},z0s th c q->wfQ th (plug c q)->Eqv th tr q q'->Eqv th tr (plug c q) (plug c q')
 | [],_,_,_,_,E=>E
 | (p,i)::c,q,q',h,w,E=>by
  have a:=zdx (z2s h.2.2 w) (z6q h.1) E;rw[set_set h.1]at a;show z78 (c:=c) h.2.2 w a
noncomputable def wt:Qn->Nat
 | .table _=>1
 | .pick c q=>c.size*zu q+wt q
 | .cols _ q | .first _ q | .group _ _ _ _ q | .sort _ q=>wt q+1
 | .pair q r | .join _ _ q r | .both q r=>wt q+wt r+1
set_option tactic.hygienic true in
theorem z6w(q:Qn):(post q).length<=wt q:=by
 induction q
 case' pick c q h=>have h2:1*1<=c.size*zu q:=w0L c.size_pos (yn q)
 all_goals
  simp only[post,wt,wm,wJ,QN]
  lia
theorem zb1{x y:Str}:kO th x y q r= .join x y q r\/kO th x y q r= .join y x q r:=by
 unfold kO;split<;>simp
theorem z9Q(hm:∀x y,zu (mk x y)=zu x+zu y/\wt (mk x y)=wt x+wt y+1)(e:yO th c mk b q r=some q'):zu q'=zu q+zu r/\wt q'<=c.size*(zu q+zu r)+(wt q+wt r+1):=by
 rw[QH];rcases z2i e with _|_|⟨x,y⟩
 .rw [(hm _ _).1,(hm _ _).2];show(rfl,by simp only[wt];lia)
 .rw [(hm _ _).1,(hm _ _).2];show(rfl,by simp only[wt];lia)
 .rcases zb1 (th:=th) (x:=x) (y:=y) (q:=q) (r:=r)with h|h<;>rw[h]<;>show(rfl,by simp only[wt];lia)
theorem zdt(e:yy th c q=some q'):zu q'=zu q/\wt q'<=c.size*zu q+wt q:=by
 rcases z2w e with⟨a,b,rfl,rfl⟩|e
 .refine(rfl,?_);have:(Cond.an a b).size*zu q=a.size*zu q+b.size*zu q+zu q:=by
   change(a.size+b.size+1)*_=_
   rw[w07,w07,w1l]
  rw[this];simp only[wt,zu]
  lia
 cases q with
 | pair r s=>show z9Q (mk:= .pair) (b:=true) (λv v=>(rfl,rfl)) e
 | join a b r s=>show z9Q (mk:= .join a b) (b:=false) (λv v=>(rfl,rfl)) e
 | _=>cases e<;>show(rfl,by simp only[wt,zu,QH];lia)
theorem z9V(e:kr th q=some q'):zu q'=zu q/\wt q'<=wt q:=by
 rcases z3r e with⟨c,r,_,f⟩|⟨c,d,r,_⟩|⟨n,m,r⟩|⟨n,l,r⟩|⟨l,m,r⟩|⟨a,r⟩
 .exact zdt f
 all_goals show(rfl,by simp only[wt,zu];lia)
theorem zfq{p k:Qn}(a:(kids p)[i]? =some k)(hl:zu k'=zu k)(h:wt k'<=wt k):zu (zN p i k')=zu p/\wt (zN p i k')<=wt p:=by
 cases p<;>rcases i with _|_|i<;>cases a<;>simp only[zN,zu,wt,hl,w1f,w1W,Nat.one_ne_zero,w0B]<;>lia
theorem z7Z{k:Qn}:∀{l:List Qn},k∈l->(post k).length<=(l.flatMap post).length
 | a::l,m=>by
  rw[QU,wm];rcases wL.mp m with rfl|m
  .exact Nat.le_add_right _ _
  .exact wY (z7Z m) (Nat.le_add_left _ _)
theorem zbC{p k:Qn}(a:(kids p)[i]? =some k):(post k).length+1<=(post p).length:=by
 rw[z0H p,wm];show Nat.succ_le_succ (z7Z (qN a))
theorem z5J:∀{c:List (Qn×Nat)} {q:Qn},z0s th c q->(post q).length+c.length<=(post (plug c q)).length
 | [],_,_=>wA _
 | (p,i)::c,q,h=>by
  have b:=zbC (z6q (k:=q) h.1);have a:=z5J (c:=c) h.2.2
  change _+(c.length+1)<=(post (plug c (zN p i q))).length
  lia
theorem z6e:∀{c:List (Qn×Nat)} {p q:Qn} {i:Nat},plug (c++[(p,i)]) q=zN p i (plug c q)
 | [],_,_,_=>rfl
 | (p',j)::c,p,q,i=>z6e (c:=c) (q:=zN p' j q)
noncomputable def rest(p:Qn)(j:Nat):Nat:=((kids p).drop j).foldr (λk n=>3*(post k).length+n) 0
theorem z9w{p k:Qn}(a:(kids p)[i]? =some k):rest p i=3*(post k).length+rest p (i+1):=by
 unfold rest;obtain⟨hi,e⟩:=wg.mp a;rw[List.drop_eq_getElem_cons hi,e]
 rfl
theorem zaK{p:Qn}:rest p (i+1)<=rest p i:=by
 by_cases h:i<(kids p).length
 .rw [z9w (we h)];lia
 .unfold rest;rw[List.drop_eq_nil_of_le ∅,List.drop_eq_nil_of_le ∅];show wA _
theorem zdG{p:Qn}(h:i<=j):rest p j<=rest p i:=by
 induction h with
 | refl=>show wA _
 | step _ a=>show wY zaK a
theorem zcW(k:Qn):rest k 0+3=3*(post k).length:=by
 cases k<;>simp only[rest,kids,post,w1r,List.foldr_cons,List.foldr_nil,wm,wJ]<;>lia
theorem zbN{p k:Qn}(h:i<(kids p).length):rest (zN p i k) (i+1)=rest p (i+1):=by
 unfold rest;rw[z2m h,List.drop_set_of_lt (w0E i)]
noncomputable def budget(c:List (Qn×Nat)):Nat:=c.foldr (λx n=>2+rest x.1 (x.2+1)+n) 0
theorem z4Z{d1 d2 l1 l2:Nat}:d1*l1+d2*l2<=(max d1 d2+1)*(l1+l2):=by
 have a:d1*l1<=max d1 d2*l1:=QJ _ (Nat.le_max_left _ _);have b:d2*l2<=max d1 d2*l2:=QJ _ (Nat.le_max_right _ _);rw[w07,w1l,QH]
 lia
set_option tactic.hygienic true in
theorem zgl(h:okQ th q):wt q<=(post q).length+6*(depth q*zu q):=by
 induction q
 case' pick c q i=>have:c.size*zu q<=6*zu q:=QJ _ h.2.1;have:=i h.2.2
 case' cols i=>have:=i h.2.2.2
 case' first i=>have:=i h.2
 case' group i=>have:=i h.2.2.2.2.2
 case' sort i=>have:=i h.2
 case' pair q r i j=>have:=i h.2.1;have:=j h.2.2;have:=z4Z (d1:=depth q) (d2:=depth r) (l1:=zu q) (l2:=zu r)
 case' join q r i j=>have:=i h.2.2.2.1;have:=j h.2.2.2.2;have:=z4Z (d1:=depth q) (d2:=depth r) (l1:=zu q) (l2:=zu r)
 case' both q r i j=>have:=i h.2.1;have:=j h.2.2;have:=z4Z (d1:=depth q) (d2:=depth r) (l1:=zu q) (l2:=zu r)
 case' pair|join|both=>simp only[wt,post,depth,zu,wm,wJ]
 all_goals
  try simp only[wt,post,depth,zu,wm,wJ,QN,w07,w1l,QH]
  lia
noncomputable def held(th:Str->List Str)(d:Cond):Qn->Bool
 | .pair q r=>(yy th d (.pair q r)).isNone
 | .join a b q r=>(yy th d (.join a b q r)).isNone
 | _=>false
noncomputable def ym:Qn->Nat
 | .table _=>0
 | .cols _ q=>ym q+1
 | .pick _ q | .sort _ q | .first _ q | .group _ _ _ _ q=>ym q
 | .pair q r | .join _ _ q r | .both q r=>ym q+ym r
noncomputable def nu(th:Str->List Str):Qn->Nat
 | .table _=>0
 | .pick c q=>(if held th c (beneath q)=true then 0 else c.size*wt q)+c.size*c.size*zu q+nu th q
 | .cols _ q | .sort _ q | .group _ _ _ _ q=>nu th q+1
 | .first _ q=>nu th q+1+ym q
 | .pair q r | .join _ _ q r | .both q r=>nu th q+nu th r+1
theorem z66{mk':Qn->Qn->Qn}(h1:ze th q=ze th q')(h2:ze th r=ze th r'):(yO th c mk b q r).isNone=(yO th c mk' b q' r').isNone:=by
 unfold yO;rw[h1,h2];split
 .rfl
 .split
  .rfl
  .split<;>rfl
theorem z2D{d:Cond}(h1:ze th q=ze th q')(h2:ze th r=ze th r'):held th d (.pair q r)=held th d (.pair q' r'):=by
 cases d<;>first|rfl|show z66 (mk:= .pair) (mk':= .pair) (b:=true) h1 h2
theorem z2x{d:Cond}{a b:Str}(h1:ze th q=ze th q')(h2:ze th r=ze th r'):held th d (.join a b q r)=held th d (.join a b q' r'):=by
 cases d<;>first|rfl|show z66 (mk:= .join a b) (mk':= .join a b) (b:=false) h1 h2
theorem zev{d:Cond}{a b:Str}(h:held th d (.pair q r)=true):held th d (.join a b q r)=true:=by
 have go:(yO th d .pair true q r).isNone=true->(yO th d (.join a b) false q r).isNone=true:=λh=>by
  unfold yO at h ⊢;split
  .next x=>rw[qd x]at h;cases h
  .next x=>
   rw[wW x]at h;split
   .next y=>rw[qd y]at h;cases h
   .rfl
 cases d<;>first|cases h|show go h
def Hld(th:Str->List Str)(q q':Qn):Prop:=∀d,held th d (beneath q)=true->held th d (beneath q')=true
theorem zc8{p k:Qn}{d:Cond}(h:ze th k=ze th k'):held th d (zN p i k)=held th d (zN p i k'):=by
 cases p with
 | pair q r=>
  by_cases e:i=0
  .simp only [zN,e,w1f];show z2D h rfl
  .simp only [zN,e,w0B];show z2D rfl h
 | join a b q r=>
  by_cases e:i=0
  .simp only [zN,e,w1f];show z2x h rfl
  .simp only [zN,e,w0B];show z2x rfl h
 | both q r=>by_cases e:i=0<;>simp only[zN,e,w1f,w0B]<;>rfl
 | _=>rfl
theorem zbj(t:Trn th q q'):Hld th q q':=by
 intro d h;rcases t with⟨c,r,_,f⟩|⟨c,e,r,_⟩|⟨n,m,r⟩|⟨n,l,r⟩|⟨l,m,r⟩|⟨a,r⟩
 .rcases z2w f with⟨a,b,rfl,rfl⟩|f
  .exact h
  cases r with
  | pair r s=>
   rcases z2i f with h1|h2|⟨x,y,_,h1,h2,rfl⟩
   .exact(z2D (q:= .pick c r) (r:=s) (q':=r) (r':=s) rfl rfl).trans h
   .exact(z2D (q:=r) (r:= .pick c s) (q':=r) (r':=s) rfl rfl).trans h
   .unfold kO;split<;>show zev h
  | join a b r s=>
   rcases z2i (mk:= .join a b) (b:=false) f with h1|h2|⟨_,_,h⟩
   .exact(z2x (q:= .pick c r) (r:=s) (q':=r) (r':=s) rfl rfl).trans h
   .exact(z2x (q:=r) (r:= .pick c s) (q':=r) (r':=s) rfl rfl).trans h
   .cases h
  | sort|cols|both=>cases f;cases h
  | _=>cases f
 .exact h
 all_goals cases h
theorem z7I(f:yy th c q=some q'):held th c q=false:=by
 cases q<;>first|rfl|(change Option.isNone _=false;rw[f];rfl)
theorem z8m(t:Trn th q q'):ym q'<=ym q:=by
 rcases t with⟨c,r,_,f⟩|⟨c,e,r,_⟩|⟨n,m,r⟩|⟨n,l,r⟩|⟨l,m,r⟩|⟨a,r⟩
 .rcases z2w f with⟨a,b,rfl,rfl⟩|f
  .simp only [ym];lia
  cases r with
  | pair r s=>
   rcases z2i f with h1|h2|⟨x,y,_,h1,h2,rfl⟩
   .simp only [ym];lia
   .simp only [ym];lia
   .unfold kO;split<;>simp only[ym]<;>lia
  | join a b r s=>rcases z2i (mk:= .join a b) (b:=false) f with h1|h2|⟨_,_,h⟩<;>first|cases h|(simp only[ym];lia)
  | sort|cols|both=>cases f;simp only[ym];lia
  | _=>cases f
 all_goals simp only[ym];lia
theorem yC(c:Cond)(q:Qn):nu th (.pick c q)<=c.size*wt q+c.size*c.size*zu q+nu th q:=by
 simp only[nu];split<;>lia
theorem k5(h:held th c (beneath q)=false):nu th (.pick c q)=c.size*wt q+c.size*c.size*zu q+nu th q:=by
 simp only[nu,h];simp
theorem z9I(hm:∀x y,nu th (mk x y)=nu th x+nu th y+1)(e:yO th c mk b q r=some q'):nu th q'<c.size*(wt q+wt r+1)+c.size*c.size*(zu q+zu r)+(nu th q+nu th r+1):=by
 have a:=yC (th:=th) c q;have p2:=yC (th:=th) c r;have hs:=c.size_pos;rw[QH,QH,QH,w26];rcases z2i e with _|_|⟨x,y⟩
 .rw [hm];lia
 .rw [hm];lia
 .unfold kO;split<;>simp only[nu]<;>lia
theorem zdl(D:∀r∈kids q,kr th r=none)(e:kr th q=some q'):nu th q'<nu th q:=by
 rcases z3r e with⟨c,r,_,f⟩|⟨c,d,r,h2⟩|⟨n,m,r⟩|⟨n,l,r⟩|⟨l,m,r⟩|⟨a,r⟩
 .have hs:=c.size_pos;rcases z2w f with⟨a,b,rfl,rfl⟩|g
  .have E:∀q,held th (.an a b) q=false:=λq=>by cases q<;>rfl
   rw[k5 (E _)];have t:=yC (th:=th) a (.pick b r);have p2:=yC (th:=th) b r;have A:(Cond.an a b).size=a.size+b.size+1:=rfl;have o:wt (.pick b r)=b.size*zu r+wt r:=rfl;have j:zu (.pick b r)=zu r:=rfl;rw[o,j]at t;rw[A];have l1:=yn r;generalize a.size=x at *;generalize b.size=y at *;generalize zu r=l at *;generalize wt r=w at *;have C:x*(y*l+w)=x*y*l+x*w:=by rw[QH,Nat.mul_assoc]
   have F:(x+y+1)*w=x*w+y*w+w:=by rw[w07,w07,w1l]
   have B:(x+y+1)*(x+y+1)*l=x*x*l+y*y*l+x*y*l+(x*y*l+2*(x*l)+2*(y*l)+l):=by
    simp only[w07,QH,w1l,w26,Nat.mul_comm y x]
    lia
   rw[C]at t;rw[F,B]
   lia
  .have i:=z7I f;cases r with
   | sort _ r|cols _ r=>
    cases g;rw[k5 i];have:=yC (th:=th) c r;simp only[wt,zu,QH,w26]
    change nu th (.pick c r)+1<_+(nu th r+1)
    lia
   | both r s=>
    cases g;rw[k5 i];have:=yC (th:=th) c r;have:=yC (th:=th) c s;simp only[wt,zu,QH,w26]
    change nu th (.pick c r)+nu th (.pick c s)+1<_+(nu th r+nu th s+1)
    lia
   | pair r s=>rw[k5 i];show z9I (mk:= .pair) (b:=true) (λv v=>rfl) g
   | join a b r s=>rw[k5 i];show z9I (mk:= .join a b) (b:=false) (λv v=>rfl) g
   | _=>cases g
 .have st:=zcX (D _ (ww.mpr rfl));have hc:=c.size_pos;have hd:=d.size_pos;have l1:=yn r;have h:held th d (beneath r)=true/\held th c (beneath r)=false:=by
   generalize beneath r=x at st h2;obtain⟨y,p⟩:=Option.isSome_iff_exists.mp h2;show(?_,z7I p);have u:(yy th d x).isNone=true:=by
    cases hz:yy th d x with
    | none=>rfl
    | some z=>rw[hz]at st;cases st
   cases x with
   | pair|join=>show u
   | sort|cols|both=>cases d<;>cases u
   | _=>
    rcases z2w p with⟨a,b,rfl,rfl⟩|g
    .cases e
    .cases g
  have o:nu th (.pick d (.pick c r))=d.size*d.size*zu r+(c.size*wt r+c.size*c.size*zu r+nu th r):=by
   rw[<-k5 h.2]
   change(if held th d (beneath r)=true then 0 else _)+_+_=_
   rw[qd h.1,w1W]
   rfl
  have j:nu th (.pick c (.pick d r))=c.size*(d.size*zu r+wt r)+c.size*c.size*zu r+(d.size*d.size*zu r+nu th r):=by
   rw[k5 (q:= .pick d r) h.2]
   congr 1
   change(if held th d (beneath r)=true then 0 else _)+_+_=_
   rw[qd h.1,w1W]
  have z:1*(1*1)<=c.size*(d.size*zu r):=w0L hc (w0L hd l1);rw[o,j,QH]
  lia
 all_goals
  simp only[nu,ym]
  lia
structure Dn(th:Str->List Str)(q q':Qn):Prop where
 nu:nu th q'<nu th q
 wt:wt q'<=wt q
 lv:zu q'=zu q
 nc:ym q'<=ym q
 hl:Hld th q q'
 hd:ze th q'=ze th q
theorem zb4{p k:Qn}(a:(kids p)[i]? =some k)(h:ym k'<=ym k):ym (zN p i k')<=ym p:=by
 cases p<;>rcases i with _|_|i<;>cases a<;>simp only[zN,ym,w1f,w1W,Nat.one_ne_zero,w0B]<;>lia
theorem zfI{p k:Qn}(b:(kids p)[i]? =some k)(h:ym k'<=ym k)(n:nu th k'<nu th k)(a:∀c:Cond,nu th (.pick c k')<nu th (.pick c k)):nu th (zN p i k')<nu th p:=by
 cases p with
 | pick c q=>
  rcases i with _|i<;>cases b
  show a c
 | _=>
  clear a;rcases i with _|_|i<;>cases b<;>simp only[zN,nu,w1f,w1W,Nat.one_ne_zero,w0B]<;>lia
theorem zem{p k:Qn}(f:(kids p)[i]? =some k)(hd:ze th k'=ze th k)(hl:Hld th k k'):Hld th p (zN p i k'):=by
 intro d h;have:=zc8 (p:=p) (i:=i) (d:=d) hd.symm;rw[set_same f]at this;cases p with
 | pick c q=>
  rcases i with _|i<;>cases f
  show hl d h
 | pair q r|both q r=>
  clear f hl;by_cases e:i=0<;>simp only[zN,e,w1f,w0B]at this ⊢<;>show this ▸ h
 | join a b q r=>
  clear f hl;by_cases e:i=0<;>simp only[zN,e,w1f,w0B]at this ⊢<;>show this ▸ h
 | _=>show this ▸ h
theorem Dn.set{p k:Qn}(a:(kids p)[i]? =some k)(D:Dn th k k'):Dn th p (zN p i k'):=by
 have w:=zfq a D.lv D.wt;have hd:ze th (zN p i k')=ze th p:=(z3F D.hd).trans (by rw[set_same a]);show(zfI a D.nc D.nu λc=>?_,w.2,w.1,zb4 a D.nc,zem a D.hd D.hl,hd);have m:c.size*_root_.Q12.wt k'<=c.size*_root_.Q12.wt k:=QR _ D.wt;have b:=D.nu;simp only[Q12.nu,D.lv];by_cases e:held th c (beneath k)=true
 .rw [qd e,qd (D.hl c e)];lia
 .rw [wW e];split<;>lia
theorem Dn.plug:∀{c:List (Qn×Nat)} {q q':Qn},z0s th c q->Dn th q q'->Dn th (plug c q) (plug c q')
 | [],_,_,_,D=>D
 | (p,i)::c,q,q',h,D=>by
  have E:=D.set (z6q (k:=q) h.1);rw[set_set h.1]at E;show Dn.plug (c:=c) h.2.2 E
def zdo(T:TabOk th tr)(w:wfQ th q)(a:∀r∈kids q,kr th r=none)(e:kr th q=some q'):Dn th q q':=
 (zdl a e,(z9V e).2,(z9V e).1,z8m (z3r e),zbj (z3r e),(z4S T w e).h)
theorem zd9(q:Qn):ym q<=wt q:=by
 induction q<;>simp only[ym,wt]<;>lia
theorem z76(a b:Nat):a*a+2*(a*b)+b*b=(a+b)*(a+b):=by
 rw[w07,QH,QH,Nat.mul_comm b a]
 lia
theorem zeE(q:Qn):nu th q<=wt q*wt q:=by
 induction q with
 | table n=>show qU _
 | pick c q a=>
  have h1:=yC (th:=th) c q;have l1:=yn q
  change _<=(c.size*zu q+wt q)*(c.size*zu q+wt q)
  rw[<-z76];have e:c.size*wt q*1<=c.size*wt q*zu q:=QR _ l1;have d:c.size*zu q*wt q=c.size*wt q*zu q:=Nat.mul_right_comm _ _ _;have f:c.size*c.size*zu q*1<=c.size*c.size*zu q*zu q:=QR _ l1;have b:c.size*zu q*(c.size*zu q)=c.size*c.size*zu q*zu q:=by
   rw[Nat.mul_assoc,Nat.mul_left_comm (zu q),<-Nat.mul_assoc,<-Nat.mul_assoc]
  rw[d,b]
  lia
 | first n q a=>
  have:=zd9 q;simp only[nu,wt,<-z76]
  lia
 | cols _ q a|sort _ q a|group _ _ _ _ q a=>
  simp only[nu,wt,<-z76]
  lia
 | pair q r i j|join _ _ q r i j|both q r i j=>
  simp only[nu,wt,<-z76]
  lia
def One(th:Str->List Str)(w a:Qn):Prop:=∃c r r',z0s th c r/\w=plug c r/\a=plug c r'/\kr th r=some r'/\∀k∈kids r,nf th k
theorem One.eqv(T:TabOk th tr){w a:Qn}(wf:wfQ th w)(o:One th w a):Eqv th tr w a:=by
 obtain⟨c,r,r',h,rfl,rfl,e,_⟩:=o;show z78 h wf (z4S T (z2s h wf) e)
theorem One.dn(T:TabOk th tr){w a:Qn}(wf:wfQ th w)(o:One th w a):Dn th w a:=by
 obtain⟨c,r,r',h,rfl,rfl,e,b⟩:=o;show Dn.plug h (zdo T (z2s h wf) (λk m=>b k m k (zaV k)) e)
def kQ(H:Hp):Qn->List V->Prop
 | .table n,xs=>xs= [.str "table",.str n]
 | .pick c _,xs=>∃x,xs= [.str "pick",x]/\zE H c x
 | .cols ns _,xs=>∃x,xs= [.str "cols",.ref x]/\H x=some (.tup (ns.map V.str))
 | .pair _ _,xs=>xs= [.str "pair"]
 | .join a b _ _,xs=>xs= [.str "join",.str a,.str b]
 | .both _ _,xs=>xs= [.str "both"]
 | .first n _,xs=>xs= [.str "first",.int n]
 | .group a b n s _,xs=>xs= [.str "group",.str a,.str b,.str n,.str s]
 | .sort a _,xs=>xs= [.str "sort",.str a]
noncomputable def jC(ah hd wl:Addr)(qv:V)(b:Bool):List (Str×V):= [("ahead",.ref ah),("heads",.ref hd),("within",.ref wl),("question",qv),("settled",.bl b)]
structure NodeAt(th:Str->List Str)(C:Addr)(H:Hp)(q:Qn)(a:Addr)(ws:List V)(ah hd wl dx:Addr)(qv:V)(b:Bool)(xs:List V):Prop where
 me:H a=some (.ins C dx (jC ah hd wl qv b))
 ahd:H ah=some (.tup xs)
 ahx:kQ H q xs
 hds:H hd=some (.lst ((ze th q).map V.str))
 wit:H wl=some (.lst ws)
 qst:QAt H q qv
 set:b=true->nf th q
inductive Node (th:Str->List Str) (C:Addr) (H:Hp) (q:Qn) (v:V) (ws:List V):Prop
 | mk:∀a ah hd wl dx qv b xs,v= .ref a->NodeAt th C H q a ws ah hd wl dx qv b xs->Node th C H q v ws
def jP(th:Str->List Str)(C:Addr)(H:Hp):Qn->V->Prop
 | .table n,v=>Node th C H (.table n) v []
 | .pick c q,v=>∃w,Node th C H (.pick c q) v [w]/\jP th C H q w
 | .cols ns q,v=>∃w,Node th C H (.cols ns q) v [w]/\jP th C H q w
 | .pair q r,v=>∃w u,Node th C H (.pair q r) v [w,u]/\jP th C H q w/\jP th C H r u
 | .join a b q r,v=>∃w u,Node th C H (.join a b q r) v [w,u]/\jP th C H q w/\jP th C H r u
 | .both q r,v=>∃w u,Node th C H (.both q r) v [w,u]/\jP th C H q w/\jP th C H r u
 | .first n q,v=>∃w,Node th C H (.first n q) v [w]/\jP th C H q w
 | .group a b n s q,v=>∃w,Node th C H (.group a b n s q) v [w]/\jP th C H q w
 | .sort a q,v=>∃w,Node th C H (.sort a q) v [w]/\jP th C H q w
def jQ(th:Str->List Str)(C:Addr)(H:Hp):List Qn->List V->Prop
 | [],vs=>vs= []
 | q::qs,vs=>∃v ws,vs=v::ws/\jP th C H q v/\jQ th C H qs ws
theorem zZ{v:V}:jP th C H q v↔∃ws,Node th C H q v ws/\jQ th C H (kids q) ws:=by
 have one:∀{q r:Qn},kids q= [r]->((∃w,Node th C H q v [w]/\jP th C H r w)↔∃ws,Node th C H q v ws/\jQ th C H (kids q) ws):=λ{q r} e=>by
  rw[e];constructor
  .rintro⟨w,h1,h2⟩;show([w],h1,w,[],rfl,h2,rfl)
  .rintro⟨ws,h1,w,us,rfl,h2,rfl⟩;show(w,h1,h2)
 have two:∀{q r t:Qn},kids q= [r,t]->((∃w u,Node th C H q v [w,u]/\jP th C H r w/\jP th C H t u)↔∃ws,Node th C H q v ws/\jQ th C H (kids q) ws):=λ{q r t} e=>by
  rw[e];constructor
  .rintro⟨w,u,h1,h2,d⟩;show([w,u],h1,w,[u],rfl,h2,u,[],rfl,d,rfl)
  .rintro⟨ws,h1,w,us,rfl,h2,u,vs,rfl,d,rfl⟩;show(w,u,h1,h2,d)
 cases q with
 | table n=>
  constructor
  .intro h;show([],h,rfl)
  .rintro⟨ws,h,rfl⟩;show h
 | pick c q=>show one rfl
 | cols ns q=>show one rfl
 | first n q=>show one rfl
 | group a b n s q=>show one rfl
 | sort a q=>show one rfl
 | pair q r=>show two rfl
 | join a b q r=>show two rfl
 | both q r=>show two rfl
theorem jQ.len:∀{qs:List Qn} {vs:List V},jQ th C H qs vs->vs.length=qs.length
 | [],_,h=>by rw[show _= []from h];rfl
 | _::qs,_,(v,ws,e,_,h)=>by rw[e,wP,wP,h.len]
theorem jQ.at:∀{qs:List Qn} {vs:List V} {i:Nat} {q:Qn},jQ th C H qs vs->qs[i]? =some q->∃v,vs[i]? =some v/\jP th C H q v
 | q::qs,_,0,_,(v,us,a,h1,h2),e=>by cases e;show(v,by rw[a];rfl,h1)
 | q::qs,_,i+1,_,(v,us,a,h1,h2),e=>by
  obtain⟨u,b,z⟩:=h2.at (i:=i) (by simpa using e);show(u,by rw[a];simpa using b,z)
theorem jQ.set:∀{qs:List Qn} {vs:List V} {i:Nat} {q:Qn} {v:V},jQ th C H qs vs->jP th C H q v->jQ th C H (qs.set i q) (vs.set i v)
 | [],_,_,_,_,h,_=>by rw[show _= []from h];rfl
 | r::qs,_,0,_,v,(u,us,a,h1,h2),h=>by subst a;show(v,us,rfl,h,h2)
 | r::qs,_,i+1,_,v,(u,us,a,h1,h2),h=>by subst a;show(u,us.set i v,rfl,h1,h2.set h)
structure Ev(th:Str->List Str)(C:Addr)(H H':Hp):Prop where
 t:∀b o,H b=some o->(∀ps,o≠ .tbl ps)->(∀D dx fs,o≠ .ins D dx fs)->H' b=some o
 n:∀a dx ah hd wl qv b,H a=some (.ins C dx (jC ah hd wl qv b))->∃b',H' a=some (.ins C dx (jC ah hd wl qv b'))/\(b'=b\/(b'=true/\∀q ws xs,NodeAt th C H q a ws ah hd wl dx qv b xs->nf th q))
theorem Ev.tup{b:Addr}{xs:List V}(e:Ev th C H H')(h:H b=some (.tup xs)):H' b=some (.tup xs):=e.t b _ h (λv z=>by cases z) λv v v z=>by cases z
theorem Ev.lst{b:Addr}{xs:List V}(e:Ev th C H H')(h:H b=some (.lst xs)):H' b=some (.lst xs):=e.t b _ h (λv z=>by cases z) λv v v z=>by cases z
theorem Ev.of(h:Nt H H'):Ev th C H H':=(λb o e n v=>h b o e n,λa dx ah hd wl qv b e=>(b,h a _ e (λv z=>by cases z),.inl rfl))
theorem kQ.mono(t:∀b xs,H b=some (.tup xs)->H' b=some (.tup xs))(h:kQ H q xs):kQ H' q xs:=by
 cases q with
 | pick c q=>obtain⟨x,e,h⟩:=h;show(x,e,h.mono t)
 | cols ns q=>obtain⟨x,e,h⟩:=h;show(x,e,t _ _ h)
 | _=>show h
theorem Node.ev{v:V}(e:Ev th C H H')(h:Node th C H q v ws):Node th C H' q v ws:=by
 obtain⟨a,ah,hd,wl,dx,qv,b,xs,rfl,h⟩:=h;obtain⟨b',h1,h2⟩:=e.n a dx ah hd wl qv b h.me;have c:∀b xs,H b=some (.tup xs)->H' b=some (.tup xs):=λb xs z=>e.tup z
 show(a,ah,hd,wl,dx,qv,b',xs,rfl,h1,e.tup h.ahd,h.ahx.mono c,e.lst h.hds,e.lst h.wit,h.qst.mono c,λz=>?_);rcases h2 with rfl|⟨_,h2⟩
 .exact h.set z
 .exact h2 q ws xs h
theorem jP.ev(e:Ev th C H H'):∀{q:Qn} {v:V},jP th C H q v->jP th C H' q v
 | .table n,_,h=>Node.ev e h
 | .pick c q,_,(w,h1,h2)=>(w,h1.ev e,h2.ev e)
 | .cols ns q,_,(w,h1,h2)=>(w,h1.ev e,h2.ev e)
 | .pair q r,_,(w,u,h1,h2,d)=>(w,u,h1.ev e,h2.ev e,d.ev e)
 | .join a b q r,_,(w,u,h1,h2,d)=>(w,u,h1.ev e,h2.ev e,d.ev e)
 | .both q r,_,(w,u,h1,h2,d)=>(w,u,h1.ev e,h2.ev e,d.ev e)
 | .first n q,_,(w,h1,h2)=>(w,h1.ev e,h2.ev e)
 | .group a b n s q,_,(w,h1,h2)=>(w,h1.ev e,h2.ev e)
 | .sort a q,_,(w,h1,h2)=>(w,h1.ev e,h2.ev e)
theorem jQ.ev(e:Ev th C H H'):∀{qs:List Qn} {vs:List V},jQ th C H qs vs->jQ th C H' qs vs
 | [],_,h=>h
 | _::_,_,(v,ws,a,h1,h2)=>(v,ws,a,h1.ev e,h2.ev e)
theorem zfp{kv:List V}(h:kQ H q xs)(i:yt H (kids q) kv)(hp:H p=some (.tup (xs++kv))):QAt H q (.ref p):=by
 have one:∀{r:Qn},yt H [r] kv->∃y,kv= [y]/\QAt H r y:=λ⟨v,ws,e,h,z⟩=>(v,by rw[e,show ws= []from z],h)
 have two:∀{r t:Qn},yt H [r,t] kv->∃x y,kv= [x,y]/\QAt H r x/\QAt H t y:=λ⟨v,ws,e,h,u,us,j,h2,z⟩=>(v,u,by rw[e,j,show us= []from z],h,h2)
 cases q with
 | table n=>
  rw[show kv= []from i,show xs=_ from h]at hp;show(p,rfl,hp)
 | pick c q=>
  obtain⟨y,rfl,d⟩:=one i;obtain⟨x,rfl,f⟩:=h;show(p,x,y,rfl,hp,f,d)
 | cols ns q=>
  obtain⟨y,rfl,d⟩:=one i;obtain⟨x,rfl,f⟩:=h;show(p,x,y,rfl,hp,f,d)
 | first n q=>
  obtain⟨y,rfl,d⟩:=one i;rw[show xs=_ from h]at hp;show(p,y,rfl,hp,d)
 | group a b n s q=>
  obtain⟨y,rfl,d⟩:=one i;rw[show xs=_ from h]at hp;show(p,y,rfl,hp,d)
 | sort a q=>
  obtain⟨y,rfl,d⟩:=one i;rw[show xs=_ from h]at hp;show(p,y,rfl,hp,d)
 | pair q r=>
  obtain⟨x,y,rfl,f,d⟩:=two i;rw[show xs=_ from h]at hp;show(p,x,y,rfl,hp,f,d)
 | join a b q r=>
  obtain⟨x,y,rfl,f,d⟩:=two i;rw[show xs=_ from h]at hp;show(p,x,y,rfl,hp,f,d)
 | both q r=>
  obtain⟨x,y,rfl,f,d⟩:=two i;rw[show xs=_ from h]at hp;show(p,x,y,rfl,hp,f,d)
noncomputable def z60(st:Stmt)(j:Nat):Stmt:=match st with
 | .ClassDef _ _ _ body _ _ _ _ _ _ _=>body.getD j (.Pass (0,0,0,0))
 | _=> .Pass (0,0,0,0)
noncomputable abbrev z0z:Stmt:=z60 (top 14) 0
noncomputable abbrev z06:Stmt:=z60 (top 40) 0
noncomputable abbrev k8:Stmt:=z60 (top 40) 1
noncomputable abbrev kZ:Stmt:=z60 (top 40) 2
noncomputable abbrev yS:Stmt:=z60 (top 40) 3
noncomputable abbrev kE:Stmt:=z60 (top 40) 4
structure PC(K:W.Frag)(C:Addr):Prop where
 cls:Cls K C
 ah:NoAttr K C "ahead"
 hd:NoAttr K C "heads"
 wi:NoAttr K C "within"
 qu:NoAttr K C "question"
 se:NoAttr K C "settled"
theorem zgk{v:V}:yT "ahead" v []=([("ahead",v)]:List (Str×V)):=rfl
theorem put2{v x:V}:yT "heads" v ([("ahead",x)]:List (Str×V))=([("ahead",x),("heads",v)]:List (Str×V)):=by simp[yT,show("ahead":Str)≠"heads" by decide]
theorem put3{v x:V}:yT "within" v ([("ahead",x),("heads",y)]:List (Str×V))=([("ahead",x),("heads",y),("within",v)]:List (Str×V)):=by simp[yT,show("ahead":Str)≠"within" by decide,show("heads":Str)≠"within" by decide]
theorem zgs{v x z:V}:yT "question" v ([("ahead",x),("heads",y),("within",z)]:List (Str×V))=([("ahead",x),("heads",y),("within",z),("question",v)]:List (Str×V)):=by
 simp[yT,show("ahead":Str)≠"question" by decide,show("heads":Str)≠"question" by decide,show("within":Str)≠"question" by decide]
theorem zgO{v x z:V}:yT "settled" v ([("ahead",x),("heads",y),("within",z),("question",u)]:List (Str×V))=([("ahead",x),("heads",y),("within",z),("question",u),("settled",v)]:List (Str×V)):=by
 simp[yT,show("ahead":Str)≠"settled" by decide,show("heads":Str)≠"settled" by decide,show("within":Str)≠"settled" by decide,show("question":Str)≠"settled" by decide]
theorem zgP{hd:Addr}:yT "settled" (.bl true) (jC ah hd wl qv b)=jC ah hd wl qv true:=by
 simp[yT,jC,show("ahead":Str)≠"settled" by decide,show("heads":Str)≠"settled" by decide,show("within":Str)≠"settled" by decide,show("question":Str)≠"settled" by decide]
def zeo{hd:Addr}:(jC ah hd wl qv b).lookup ("ahead":Str)=some (V.ref ah):=rfl
theorem zdM{hd:Addr}:(jC ah hd wl qv b).lookup ("heads":Str)=some (V.ref hd):=by rfl
theorem zds{hd:Addr}:(jC ah hd wl qv b).lookup ("within":Str)=some (V.ref wl):=by rfl
theorem za0{hd:Addr}:(jC ah hd wl qv b).lookup ("question":Str)=some qv:=by rfl
theorem zer{hd:Addr}:(jC ah hd wl qv b).lookup ("settled":Str)=some (V.bl b):=by rfl
def yL{a hd:Addr}(d:PC K C)(h:H a=some (.ins C dx (jC ah hd wl qv b)))(q:Q (.ref ah)):∃a' c aj fs v,V.ref a= .ref a'/\H a'=some (.ins c aj fs)/\Cls K c/\NoAttr K c "ahead"/\fs.lookup ("ahead":Str)=some v/\Q v:=(a,C,dx,_,_,rfl,h,d.cls,d.ah,zeo,q)
def z15{a hd:Addr}(d:PC K C)(h:H a=some (.ins C dx (jC ah hd wl qv b)))(q:Q (.ref hd)):∃a' c aj fs v,V.ref a= .ref a'/\H a'=some (.ins c aj fs)/\Cls K c/\NoAttr K c "heads"/\fs.lookup ("heads":Str)=some v/\Q v:=(a,C,dx,_,_,rfl,h,d.cls,d.hd,zdM,q)
def km{a hd:Addr}(d:PC K C)(h:H a=some (.ins C dx (jC ah hd wl qv b)))(q:Q (.ref wl)):∃a' c aj fs v,V.ref a= .ref a'/\H a'=some (.ins c aj fs)/\Cls K c/\NoAttr K c "within"/\fs.lookup ("within":Str)=some v/\Q v:=(a,C,dx,_,_,rfl,h,d.cls,d.wi,zds,q)
def zew{a hd:Addr}(d:PC K C)(h:H a=some (.ins C dx (jC ah hd wl qv b)))(q:Q (qv)):∃a' c aj fs v,V.ref a= .ref a'/\H a'=some (.ins c aj fs)/\Cls K c/\NoAttr K c "question"/\fs.lookup ("question":Str)=some v/\Q v:=(a,C,dx,_,_,rfl,h,d.cls,d.qu,za0,q)
def zbR{a hd:Addr}(d:PC K C)(h:H a=some (.ins C dx (jC ah hd wl qv b)))(q:Q (.bl b)):∃a' c aj fs v,V.ref a= .ref a'/\H a'=some (.ins c aj fs)/\Cls K c/\NoAttr K c "settled"/\fs.lookup ("settled":Str)=some v/\Q v:=(a,C,dx,_,_,rfl,h,d.cls,d.se,zer,q)
inductive spPInit (K:W.Frag) (C:Addr) (vs:List V) (H:Hp) (Q:VK) (E:XK):Prop
 | mk:∀th q x dx ah hd wl xs ws,vs= [.ref x,.ref ah,.ref hd,.ref wl]->H x=some (.ins C dx [])->H ah=some (.tup xs)->kQ H q xs->H wl=some (.lst ws)->jQ th C H (kids q) ws->(∀(qv:V) (H':Hp),(∀b o,b≠x->H b=some o->H' b=some o)->H' x=some (.ins C dx (jC ah hd wl qv false))->QAt H' q qv->Q .non H')->spPInit K C vs H Q E
theorem z57(h:kQ H q xs):xs≠ []/\xs.length<=5:=by
 cases q with
 | pick c q=>obtain⟨x,e,h⟩:=h;rw[e];simp
 | cols ns q=>obtain⟨x,e,h⟩:=h;rw[e];simp
 | _=>rw[show xs=_ from h];simp
theorem z5p:FnScope ["self","ahead","heads","within"] ["self","ahead","heads","within"] (zi z0z):=by done
theorem z5v(F:Fun K "__init__" "Place.__init__" z0z f fd)(T:Txt K mg)(c:PC K C):FnOk P w K mg base CX0 1 f fd ["self","ahead","heads","within"] (spPInit K C):=by
 clear z5p vs H Q E h F;obtain⟨th,q,x,dx,ah,hd,wl,xs,ws,rfl,X,ha,u,hw,cq,fin⟩:=h;intro aa A outer sh hr;show(_,(zc (z0I v0 v1 rfl)
  (zc (z0I v0 v2 rfl)
  (zc (z0I v0 v3 rfl)
  (zc (z0I v0 (zo z9G v1 (jj z1h rfl T.tuple qZ (z0w (jB rfl (CompSc.of (sx:=zi z0z) (NX:= ["self","ahead","heads","within"]) (fr:= []) (ix:= []) rfl rfl ()) (zT v3) (λm m m m m m=>jh) (λm m m m m m=>(z4v (K:=K) rfl v0 rfl))) zb))) rfl)
  (zf (z0I v0 jv rfl)))))),?_)
 generalize hK0:K=K1;generalize hK1:C=C1
 revert C1
 revert K1
 show z0l #[] ?_;show !(!(x,C,dx,!(X,c.cls,c.ah,by change 0<1000;decide,?_)));show !(!(x,C,dx,!(zh,c.cls,c.hd,by change 1<1000;decide,?_)));show !(!(x,C,dx,!(zh,c.cls,c.wi,by rw[zgk,put2];change 2<1000;decide,?_)));rw[zgk,put2,put3];generalize hH3:upd (upd (upd H x _) x _) x _=H3;have n3:∀b o,b≠x->H b=some o->H3 b=some o:=λb o d e=>by
  rw[<-hH3,zj d,zj d,zj d];show e
 have x3:H3 x=some (.ins C dx [("ahead",.ref ah),("heads",.ref hd),("within",.ref wl)]):=by rw[<-hH3,zh]
 have r:Ev th C H H3:=(λb o e m n=>n3 b o (λz=>by rw[z,X]at e;cases e;show n _ _ _ rfl) e,λa aj dB bn bU qv b e=>(b,n3 a _ (λz=>by rw[z,X]at e;cases e) e,.inl rfl));have h9:=r.lst hw;have vM:=r.tup ha;have dJ:=cq.ev r;have hl:=cq.len;have lk:=z2B q;have close:∀(qv:V) (l:Hp),zw H3 l->QAt l q qv->zeO K (λσ H Q=>Q (.ref x) H) (λσ H Q=>Q qv H) "question" {nx:=λσ H=>zeO K (λσ H Q=>Q (.ref x) H) (λσ H Q=>Q (.bl false) H) "settled" {nx:=λm H'=>Q .non H',rt:=Q} σ H,rt:=Q} [] l:=λqv l s6 h6=>by
  have s:=s6 _ _ x3;show(x,C,dx,!(s,c.cls,c.qu,by change 3<1000;decide,?_));show(x,C,dx,!(zh,c.cls,c.se,by rw[zgs];change 4<1000;decide,?_));show fin qv _ (λb o d e=>by rw[zj d,zj d];show s6 _ _ (n3 b o d e)) (by rw[zh,zgs,zgO];rfl) (h6.mono λb ys z=>?_);have d:b≠x:=λe=>by rw[e,s]at z;cases z
  rw[zj d,zj d];show z
 show !(!(wl,rfl,(_,SqL.of h9),?_));show jc (xs:=ws) (λi ys H'=>H'=H3/\ys.length=i/\yt H3 ((kids q).take i) ys) (rfl,rfl,by rw[w0N];rfl) ?_ ?_ ?_
 .rintro i ys H' hi ⟨rfl,I,_⟩;show(SqL.of h9,zG ∅)
 .rintro i y ys H' hi ⟨rfl,I,hq⟩;have cH:i<(kids q).length:=by rw[<-hl];show(wg.mp hi).1
  obtain⟨v,hv,pv⟩:=dJ.at (we cH);rw[hi]at hv;cases hv;obtain⟨us,⟨a,dB,bn,bU,aj,qv,b,cD,rfl,nd⟩,_⟩:=zZ.mp pv;show !(a,C,aj,_,qv,rfl,nd.me,c.cls,c.qu,za0,rfl,by rw[wm,I];rfl,?_);rw[wR,we cH];show hq.app (qv,[],rfl,nd.qst,rfl)
 .rintro ys H' ⟨rfl,I,hq⟩ np ag;rw[hl,qf]at hq;clear np ag H4 n4 x4 np;show(np,ys,rfl,.inl (SqL.of x4,λtp aw=>?_));clear tp aw H5 n5 x5 tp;have j:=n4.trans n5;have mO:kQ H5 q xs:=(u.mono λb xs z=>r.tup z).mono λb xs z=>j _ _ z
  show(ah,tp,xs,ys,rfl,rfl,SqT.of (j _ _ vM),SqT.of x5,?_,?_,λe=>?_,λne p hp=>?_)
  .exact(z57 u).1
  .have:=(z57 u).2;show jb ∅
  .subst e;have Be:QAt H5 q (.ref ah):=zfp mO (hq.same j) (by rw[Q3];show j _ _ vM);obtain⟨M,S,aj,iT,B,O,Z,U,e5,R,t,G,N,f1,f2,Y,D,L,J⟩:=close _ _ j Be;show !(M,S,aj,iT,B,O,Z,U,e5,!(R,t,G,N,f1,f2,Y,D,L,J))
  .clear p hp l n6 s p;have Bf:QAt l q (.ref p):=zfp (mO.mono λb xs z=>n6 _ _ z) (hq.same (j.trans n6)) s;obtain⟨M,S,aj,iT,B,O,Z,U,e5,R,t,G,N,f1,f2,Y,D,L,J⟩:=close _ _ (j.trans n6) Bf;show !(M,S,aj,iT,B,O,Z,U,e5,!(R,t,G,N,f1,f2,Y,D,L,J))
theorem jD{Q:VK}{hd:Addr}(ha:H ah=some (.tup xs))(c:kQ H q xs)(j:H hd=some (.lst ((ze th q).map V.str)))(d:H wl=some (.lst ws))(hp:jQ th C H (kids q) ws)
  (fin:∀(x dx:Addr) (qv:V) (H':Hp),zw H H'->H x=none->NodeAt th C H' q x ws ah hd wl dx qv false xs->jP th C H' q (.ref x)->Q (.ref x) H'):
  ∀x dx,H x=none->H dx=none->dx≠x->spPInit K C (.ref x::([.ref ah,.ref hd,.ref wl]++[])) (upd (upd H dx (.own x)) x (.ins C dx [])) (λv H2=>v= .non/\Q (.ref x) H2) E:=by
 intro x dx a f n;have s1:zw H (upd (upd H dx (.own x)) x (.ins C dx [])):=λb o e=>by
  have b1:b≠x:=λz=>by rw[z,a]at e;cases e
  have b2:b≠dx:=λz=>by rw[z,f]at e;cases e
  rw[zj b1,zj b2];show e
 show(th,q,x,dx,ah,hd,wl,xs,ws,rfl,zh,s1 _ _ ha,c.mono λb xs z=>s1 _ _ z,s1 _ _ d,hp.ev (Ev.of (Nt.of s1)),λqv H' h l i=>(rfl,?_));have s2:zw H H':=λb o e=>h b o (λz=>by rw[z,a]at e;cases e) (s1 b o e)
 have nd:NodeAt th C H' q x ws ah hd wl dx qv false xs:=(l,s2 _ _ ha,c.mono λb xs z=>s2 _ _ z,s2 _ _ j,s2 _ _ d,i,λz=>by cases z);show fin x dx qv H' s2 a nd (zZ.mpr (ws,(x,ah,hd,wl,dx,qv,false,xs,rfl,nd),hp.ev (Ev.of (Nt.of s2))))
noncomputable def yd:Qn->Str
 | .table _=>"table"
 | .pick _ _=>"pick"
 | .cols _ _=>"cols"
 | .pair _ _=>"pair"
 | .join _ _ _ _=>"join"
 | .both _ _=>"both"
 | .first _ _=>"first"
 | .group _ _ _ _ _=>"group"
 | .sort _ _=>"sort"
theorem z0C(h:kQ H q xs):∃r,xs= .str (yd q)::r:=by
 cases q with
 | pick c q=>obtain⟨x,e,h⟩:=h;show(_,e)
 | cols ns q=>obtain⟨x,e,h⟩:=h;show(_,e)
 | _=>show(_,h)
inductive spIsPick (C:Addr) (vs:List V) (H:Hp) (Q:VK) (E:XK):Prop
 | mk:∀th q v,vs= [v]->jP th C H q v->Q (.bl (decide (yd q="pick"))) H->spIsPick C vs H Q E
theorem z96:FnScope ["place"] ["place"] (zi z3N):=by done
theorem z8C(F:Fun K "is_pick" "is_pick" z3N f fd)(T:Txt K mg)(c:PC K C):FnOk P w K mg base CX0 1 f fd ["place"] (spIsPick C):=by
 clear z96 vs H Q E h F;obtain⟨th,q,v,rfl,hp,fin⟩:=h;obtain⟨ws,⟨a,ah,hd,wl,dx,qv,b,xs,rfl,nd⟩,_⟩:=zZ.mp hp;obtain⟨r,rfl⟩:=z0C nd.ahx;intro aa A outer d hr;show(_,(zf (zp (cmE zO (ixT (zA v0 rfl) zd) zn))),?_);generalize hK0:K=K1;generalize hK1:C=C1
 revert C1
 revert K1
 show z0l #[] ?_;show !(yL c nd.me (zg nd.ahd zH (rfl,?_)));rw[j6];show fin
inductive spPickedP (C:Addr) (vs:List V) (H:Hp) (Q:VK) (E:XK):Prop
 | mk:∀th c q cv v,vs= [cv,v]->zE H c cv->jP th C H q v->(∀(x:Addr) (H':Hp),zw H H'->jP th C H' (.pick c q) (.ref x)->Q (.ref x) H')->spPickedP C vs H Q E
theorem zas:FnScope ["condition","place"] ["condition","place"] (zi z4A):=by done
theorem zaf(F:Fun K "picked" "picked" z4A f fd)(T:Txt K mg)(e:PC K C)(d:KnC P w K mg base 1 "Place" ["self","ahead","heads","within"] (spPInit K C) C):FnOk P w K mg base CX0 3 f fd ["condition","place"] (spPickedP C):=by
 clear zas vs H Q E h F;obtain⟨th,c,q,cv,v,rfl,hc,hp,fin⟩:=h;obtain⟨ws,⟨a,ah,hd,wl,dx,qv,b,xs,rfl,nd⟩,i⟩:=zZ.mp hp;intro aa A outer j hr;show(_,(zf (zp (yr d hr.m rfl (zQ (zD (zr zn (za v0 zb))) (zP (zA v1 rfl) (jH (zC (za v1 zb)) zb)))))),?_);generalize hK0:K=K1;generalize hK1:C=C1
 revert C1
 revert K1
 show z0l #[] ?_;show !?_;clear tp aw H1 n1 x1;have l:=Ev.of (th:=th) (C:=C) (Nt.of n1);show !(z15 e (n1 _ _ nd.me) ?_);show !?_;clear lp bB H2 n2 x2;have s2:=n1.trans n2;show jD (q:= .pick c q) (xs:= [.str "pick",cv]) (n2 _ _ x1) (cv,rfl,hc.mono λb xs z=>s2 _ _ z) (s2 _ _ nd.hds) x2 (_,[],rfl,hp.ev (Ev.of (Nt.of s2)),rfl) λx aj aN H' s' u u pl=>fin x H' (s2.trans s') pl
structure TxtM(K:W.Frag)(mg:Str->Option Value):Prop where
 all:mg "all"=none
 enumerate:mg "enumerate"=none
inductive spAmong (K:W.Frag) (vs:List V) (H:Hp) (Q:VK) (E:XK):Prop
 | mk:∀np hp (ns:List Str) (hs:List Str),vs= [.ref np,.ref hp]->H np=some (.lst (ns.map V.str))->H hp=some (.lst (hs.map V.str))->ns.length<=1000->(∀H',zw H H'->Q (.bl (yM ns hs)) H')->spAmong K vs H Q E
theorem z9W{s:Str}:∀{hs:List Str},inV (.str s) (hs.map V.str)=decide (s∈hs):=by
 intro hs;by_cases h:s∈hs
 .rw [z6R h,wN h]
 .rw [wK h];show QD.mpr λz=>h ?_
  obtain⟨y,a,e⟩:=QP.mp z;obtain⟨n,hn,rfl⟩:=qx.mp a;have:n=s:=by simpa [eqV]using e
  show this ▸ hn
theorem zby:FnScope ["names","heads"] ["names","heads"] (zi z4r):=by done
theorem zdc(F:Fun K "among" "among" z4r f fd)(T:Txt K mg)(M:TxtM K mg):FnOk P w K mg base CX0 1 f fd ["names","heads"] (spAmong K):=by
 clear zby vs H Q E h F;obtain⟨np,hp,ns,hs,rfl,h1,h2,hl,fin⟩:=h;intro aa A outer b hr;show(_,(zf (zp (zF (zcC rfl) rfl M.all zaQ (z0w (jB rfl (CompSc.of (sx:=zi z4r) (NX:= ["names","heads"]) (fr:= ["heads"]) (ix:= [1]) rfl rfl ()) (zT v0) (λv v v v v v=>jh) (λv v v v v v=>(z4y (z8X (K:=K) rfl) v0 v1 (by with_unfolding_all rfl)))) zb)))),?_);generalize hK0:K=K1
 revert K1
 show jd #[] ?_;show !(np,rfl,(_,SqL.of h1),?_);show jc (xs:=ns.map V.str) (λi ys H'=>H'=H/\ys=(ns.take i).map λn=>V.bl (decide (n∈hs))) (rfl,rfl) ?_ ?_ ?_
 .rintro i ys H' hi ⟨rfl,rfl⟩;show(SqL.of h1,zG (by rw[w9,wV];lia))
 .rintro i y ys H' hi ⟨rfl,rfl⟩;rw[wM]at hi;cases hn:ns[i]? with
  | none=>rw[hn]at hi;cases hi
  | some n=>
   rw[hn]at hi;cases hi;show !(!(hp,!(.inl (SqL.of h2),rfl,zV hs,rfl,?_)));rw[wR,hn,wF]
   change _++[V.bl (inV _ _)]=_
   rw[z9W]
   rfl
 .rintro ys H' ⟨rfl,rfl⟩ lp a;clear lp a H1 n1 x1 lp;rw[w9,qf]at x1;show(lp,ns.map λn=>decide (n∈hs),rfl,SqL.of (by rw[Qp];show x1),?_);have e:(ns.map λn=>decide (n∈hs)).all id=yM ns hs:=by rw[List.all_map];rfl
  rw[e];show fin H1 n1
inductive spJoinedBy (C:Addr) (vs:List V) (H:Hp) (Q:VK) (E:XK):Prop
 | mk:∀th x y q r cv v,vs= [cv,v]->zE H (.same (.nm x) (.nm y)) cv->jP th C H (.pair q r) v->(∀(z:Addr) (H':Hp),zw H H'->jP th C H' (kO th x y q r) (.ref z)->Q (.ref z) H')->spJoinedBy C vs H Q E
theorem kA:FnScope ["condition","pair","one","other"] ["condition","pair"] (zi z23):=by done
theorem z6A(F:Fun K "joined_by" "joined_by" z23 f fd)(T:Txt K mg)(d:PC K C)(c:KnC P w K mg base 1 "Place" ["self","ahead","heads","within"] (spPInit K C) C):FnOk P w K mg base CX0 3 f fd ["condition","pair"] (spJoinedBy C):=by
 clear kA vs H Q E h F;obtain⟨th,x,y,q,r,cv,v,rfl,⟨cp,rfl,hc⟩,hp,fin⟩:=h;obtain⟨w1,w2,⟨a,ah,hd,wl,dx,qv,b,xs,rfl,nd⟩,e,p2⟩:=id hp;obtain⟨us,⟨a1,p,l,s,u,t,b1,z,rfl,i⟩,_⟩:=zZ.mp e;intro aa A outer B hr;show(_,(zc (seT 2 kA (ixT v0 zd))
  (zc (seT 3 kA (ixT v0 zd))
  (zc (kX (z01 kD v2 (zA (ixL (zA v1 rfl) zd) rfl) (by with_unfolding_all rfl))
   (zc (seT 2 kA (ixT v0 zd))
   (zf (seT 3 kA (ixT v0 zd))))
   zt)
  (zf (zp (yr c hr.m rfl (zQ (zD (zr zn (za v2 (za v3 zb)))) (zP (zA v1 rfl) (zP (zA v1 rfl) zb))))))))),?_)
 generalize hK0:K=K1;generalize hK1:C=C1
 revert C1
 revert K1
 show z0l #[] ?_;show !(zg hc j8 ?_);show !(zg hc jF ?_);show(λσ H'=>∃m n,σ= [some (.ref cp),some (.ref a),some (.str m),some (.str n)]/\H'=H/\kO th x y q r= .join m n q r,?_,?_)
 .refine !(!(km d nd.me (zv nd.wit zH (z15 d i.me (l,!(.inl (SqL.of i.hds),rfl,zV _,!?_))))));rw[show inV (Side.nm x).v ((ze th q).map V.str)=decide (x∈ze th q)from z9W];by_cases hx:x∈ze th q
  .refine ifF (by change(not (decide _))=false;rw[wN hx];rfl) ?_;show(x,y,rfl,rfl,by unfold kO;rw[qd hx])
  .refine ifT (by change(not (decide _))=true;rw[wK hx];rfl) ?_;show !(zg hc jF ?_);show !(zg hc j8 ?_);show(y,x,rfl,rfl,by unfold kO;rw[wW hx])
 rintro σ H' ⟨m,n,rfl,rfl,o⟩;show !(!?_);clear tp aw H1 n1 x1;show !(z15 d (n1 _ _ nd.me) ?_);show !(km d (n1 _ _ nd.me) ?_);have j:=Ev.of (th:=th) (C:=C) (Nt.of n1);show jD (q:= .join m n q r) (xs:= [.str "join",.str m,.str n]) x1 rfl (n1 _ _ nd.hds) (n1 _ _ nd.wit) (_,!(e.ev j,_,[],rfl,p2.ev j,rfl)) λx aj aN H' s' k k pl=>fin x H' (n1.trans s') (by rw[o];show pl)
structure Two(th:Str->List Str)(mk:Qn->Qn->Qn)(ip:Bool):Prop where
 k:∀r s,kids (mk r s)= [r,s]
 h:∀r s,ze th (mk r s)=ze th r++ze th s
 a:∀(H:Hp) (r s r' s':Qn) (xs:List V),kQ H (mk r s) xs->kQ H (mk r' s') xs
 p:ip=true->mk=Qn.pair
 w:∀r s,decide (yd (mk r s)="pair")=ip
theorem zbZ:Two th Qn.pair true:=(λv v=>rfl,λv v=>rfl,λv v v v v v h=>h,λv=>rfl,λv v=>by change decide (("pair":Str)="pair")=true;decide)
theorem zbp{a b:Str}:Two th (Qn.join a b) false:=(λv v=>rfl,λv v=>rfl,λv v v v v v h=>h,λz=>(by cases z),λv v=>by change decide (("join":Str)="pair")=false;decide)
theorem z88(h:∀s,s∈ss↔s∈ns):yM ss hs=yM ns hs:=by
 rw[w09,yv,yv];show(λz n m=>z n ((h n).mpr m),λz n m=>z n ((h n).mp m))
theorem z8H{a b:Side}(ok:(Cond.same a b).ok (hq++hr))(c:¬yM (Cond.same a b).cols hq=true)(d:¬yM (Cond.same a b).cols hr=true):∃x y,a= .nm x/\b= .nm y:=by
 have one:∀(x:Str),x∈hq++hr->(∀n∈(Cond.same a b).cols,n=x)->False:=λx e h=>by
  rcases wE.mp e with z|z
  .exact c (yv.mpr λn m=>by rw[h n m];show z)
  .exact d (yv.mpr λn m=>by rw[h n m];show z)
 cases a with
 | nm x=>cases b with
  | nm y=>show(x,y,rfl,rfl)
  | nu j=>show(one x ok.1 λn m=>by simpa [Cond.cols,Side.cols]using m).elim
 | nu i=>cases b with
  | nm y=>show(one y ok.2 λn m=>by simpa [Cond.cols,Side.cols]using m).elim
  | nu j=>show(c (yv.mpr λn m=>by simp[Cond.cols,Side.cols]at m)).elim
def zc5(th:Str->List Str)(C:Addr)(H:Hp)(o:Option Qn)(Q:VK):Prop:=(∀q',o=some q'->∀(z:Addr) (H':Hp),zw H H'->jP th C H' q' (.ref z)->Q (.ref z) H')/\(o=none->∀H',zw H H'->Q .non H')
inductive spSentPart (C:Addr) (vs:List V) (H:Hp) (Q:VK) (E:XK):Prop
 | mk:∀th c (mk:Qn->Qn->Qn) ip r s cv v,vs= [cv,v]->Two th mk ip->zE H c cv->c.size<=20->c.ok (ze th r++ze th s)->jP th C H (mk r s) v->zc5 th C H (yO th c mk ip r s) Q->spSentPart C vs H Q E
theorem z0G{v:V}(h:zE H c v):∃cp ys,v= .ref cp/\H cp=some (.tup (.str (wordOf c)::ys)):=by
 cases c with
 | less a b=>obtain⟨p,rfl,hp⟩:=h;show(p,!hp)
 | same a b=>obtain⟨p,rfl,hp⟩:=h;show(p,!hp)
 | no c=>obtain⟨p,x,rfl,hp,_⟩:=h;show(p,!hp)
 | an c d=>obtain⟨p,x,y,rfl,hp,_⟩:=h;show(p,!hp)
 | or c d=>obtain⟨p,x,y,rfl,hp,_⟩:=h;show(p,!hp)
theorem yx:FnScope ["condition","place","names","first","second"] ["condition","place"] (zi kT):=by done
theorem z3w(F:Fun K "sent_to_a_part" "sent_to_a_part" kT f fd)(T:Txt K mg)(B:PC K C)(o:KnC P w K mg base 1 "Place" ["self","ahead","heads","within"] (spPInit K C) C)(d:Kn P w K mg base 1 "columns_of" ["condition"] (spCols K))(t:Kn P w K mg base 1 "among" ["names","heads"] (spAmong K))(i:Kn P w K mg base 3 "picked" ["condition","place"] (spPickedP C))(e:Kn P w K mg base 3 "joined_by" ["condition","pair"] (spJoinedBy C)):FnOk P w K mg base CX0 4 f fd ["condition","place"] (spSentPart C):=by
 clear yx vs H Q E h F;obtain⟨th,c,mk,ip,r,s,cv,v,rfl,u,hc,hz,ok,hp,G,D⟩:=h;obtain⟨ws,⟨a,ah,hd,wl,dx,qv,b,xs,rfl,nd⟩,U⟩:=zZ.mp hp;rw[u.k]at U;obtain⟨w1,us,rfl,O,w2,eQ,rfl,p2,rfl⟩:=U;obtain⟨dC,⟨a1,Bg,dz,uG,Bh,iI,b1,va,rfl,Z⟩,_⟩:=zZ.mp O;obtain⟨eQ,⟨a2,cI,aX,dy,cu,bY,b2,cV,rfl,X⟩,_⟩:=zZ.mp p2;intro aa A outer sh hr;show(_,(zc (seT 2 yx (zS d hr.m (za v0 zb)))
  (zc (seT 3 yx (ixL (zA v1 rfl) zd))
  (zc (seT 4 yx (ixL (zA v1 rfl) zd))
  (zc (zB (zX (zS t hr.m (za v2 (zP (zA v3 rfl) zb))))
   (zf (zp (yr o hr.m rfl (zP (zA v1 rfl) (zP (zA v1 rfl) (jH (zC (zK (zS i hr.m (za v0 (za v3 zb))) (za v4 zb))) zb))))))
   zt)
  (zc (zB (zX (zS t hr.m (za v2 (zP (zA v4 rfl) zb))))
   (zf (zp (yr o hr.m rfl (zP (zA v1 rfl) (zP (zA v1 rfl) (jH (zC (za v3 (zK (zS i hr.m (za v0 (za v4 zb))) zb))) zb))))))
   zt)
  (zc (zB (PW.pt (z1L (cmT zO (ixT (zA v1 rfl) zd) zn) (z1E (cmT zO (ixT v0 zd) zn))))
   (zf (zp (zS e hr.m (za v0 (za v1 zb)))))
   zt)
  (zf (zp kC)))))))),?_)
 generalize hK0:K=K1;generalize hK1:C=C1
 revert C1
 revert K1
 show z0l #[] ?_;have lc:=c.cols_le;show !(c,cv,c.cols,rfl,hc,∅,λs m=>m,∅,λl ss H1 I x1 R mem g=>?_);have ls:ss.length<=c.cols.length:=kf R λn m=>(mem n).mp m
 show !(km B (I _ _ nd.me) (zv (I _ _ nd.wit) zH ?_));show !(km B (I _ _ nd.me) (zv (I _ _ nd.wit) j8 ?_));show !(!(z15 B (I _ _ Z.me) (l,dz,ss,_,rfl,x1,I _ _ Z.hds,∅,λH2 Y=>!?_)));have s2:=I.trans Y;rw[z88 mem];unfold yO at G D;by_cases h1:yM c.cols (ze th r)=true
 .rw [qd h1]at G;show ifT h1 ?_;show !(yL B (s2 _ _ nd.me) ?_);show !(z15 B (s2 _ _ nd.me) ?_);show !(!(th,c,r,cv,.ref a1,rfl,hc.mono λb xs z=>s2 _ _ z,O.ev (Ev.of (Nt.of s2)),λx J S pl=>!?_));clear lp bB H4 N x4;have M:=s2.trans (S.trans N);show jD (q:=mk (.pick c r) s) (xs:=xs) (M _ _ nd.ahd) (u.a _ _ _ _ _ _ (nd.ahx.mono λb xs z=>M _ _ z)) (by have:=M _ _ nd.hds;rw[u.h]at this ⊢;show this) x4 (by rw[u.k];show(_,!(pl.ev (Ev.of (Nt.of N)),_,[],rfl,p2.ev (Ev.of (Nt.of M)),rfl))) λx aj aN H' s' g g pl=>G _ rfl x H' (M.trans s') pl
 rw[wW h1]at G D;show ifF (QD.mpr h1) ?_;show !(!(z15 B (s2 _ _ X.me) (l,aX,ss,_,rfl,Y _ _ x1,s2 _ _ X.hds,∅,λJ S=>!?_)));have j:=s2.trans S;rw[z88 mem];by_cases h2:yM c.cols (ze th s)=true
 .rw [qd h2]at G;show ifT h2 ?_;show !(yL B (j _ _ nd.me) ?_);show !(z15 B (j _ _ nd.me) ?_);show !(!(!(th,c,s,cv,.ref a2,rfl,hc.mono λb xs z=>j _ _ z,p2.ev (Ev.of (Nt.of j)),λx H4 N pl=>?_)));clear lp bB H5 n5 x5;have L:=j.trans (N.trans n5);show jD (q:=mk r (.pick c s)) (xs:=xs) (L _ _ nd.ahd) (u.a _ _ _ _ _ _ (nd.ahx.mono λb xs z=>L _ _ z)) (by have:=L _ _ nd.hds;rw[u.h]at this ⊢;show this) x5 (by rw[u.k];show(_,!(O.ev (Ev.of (Nt.of L)),_,[],rfl,pl.ev (Ev.of (Nt.of n5)),rfl))) λx aj aN H' s' g g pl=>G _ rfl x H' (L.trans s') pl
 rw[wW h2]at G D;show ifF (QD.mpr h2) ?_;obtain⟨xr,fL⟩:=z0C nd.ahx;show !(yL B (j _ _ nd.me) (zg (j _ _ nd.ahd) (by rw[fL];show zH) (rfl,!?_)));rw[j6,u.w];cases ip with
 | false=>
  show ifF rfl ?_;show D rfl J j
 | true=>
  show ifT rfl ?_;have em:mk=Qn.pair:=u.p rfl;obtain⟨cp,ys,rfl,bP⟩:=z0G hc;show !(zg (j _ _ bP) zH (rfl,!?_));rw[j6];subst em;by_cases hw:wordOf c="same"
  .refine ifT (wN hw) ?_;cases c with
   | same x y=>
    obtain⟨m,n,rfl,rfl⟩:=z8H ok h1 h2;show !(!(th,m,n,r,s,_,_,rfl,hc.mono λb xs z=>j _ _ z,hp.ev (Ev.of (Nt.of j)),λz H' s' pl=>G _ rfl z H' (j.trans s') pl))
   | less x y=>show absurd hw (nb (by kernel_rfl))
   | no x=>show absurd hw (nb (by kernel_rfl))
   | an x y=>show absurd hw (nb (by kernel_rfl))
   | or x y=>show absurd hw (nb (by kernel_rfl))
  .refine ifF (wK hw) ?_;cases c with
   | same x y=>show absurd rfl hw
   | less x y=>show D rfl J j
   | no x=>show D rfl J j
   | an x y=>show D rfl J j
   | or x y=>show D rfl J j
theorem jQ.app:∀{qs rs:List Qn} {vs us:List V},jQ th C H qs vs->jQ th C H rs us->jQ th C H (qs++rs) (vs++us)
 | [],_,_,_,h,g=>by rw[show _= []from h];show g
 | _::_,_,_,_,(v,ws,a,h1,h2),g=>(v,ws++_,by rw[a];rfl,h1,h2.app g)
inductive spSentW (C:Addr) (vs:List V) (H:Hp) (Q:VK) (E:XK):Prop
 | mk:∀th c q cv v,vs= [cv,v]->zE H c cv->c.size<=20->c.ok (ze th q)->jP th C H q v->zc5 th C H (yy th c q) Q->spSentW C vs H Q E
theorem z4O:FnScope ["condition","place"] ["condition","place"] (zi z02):=by done
theorem z5f(F:Fun K "sent_within" "sent_within" z02 f fd)(T:Txt K mg)(p:PC K C)(n:KnC P w K mg base 1 "Place" ["self","ahead","heads","within"] (spPInit K C) C)(j:Kn P w K mg base 3 "picked" ["condition","place"] (spPickedP C))(d:Kn P w K mg base 4 "sent_to_a_part" ["condition","place"] (spSentPart C)):FnOk P w K mg base CX0 5 f fd ["condition","place"] (spSentW C):=by
 clear z4O vs H Q E h F;obtain⟨th,c,q,cv,v,rfl,hc,hz,ok,hp,t,u⟩:=h;obtain⟨ws,⟨a,ah,hd,wl,dx,qv,b,xs,rfl,nd⟩,J⟩:=zZ.mp hp;obtain⟨cp,ys,rfl,bP⟩:=z0G hc;obtain⟨xr,M⟩:=z0C nd.ahx;intro aa A outer sh hr;show(_,(zc (zB (cmT zO (ixT v0 zd) zn)
   (zf (zp (zS j hr.m (zl (ixT v0 zd) (zK (zS j hr.m (zl (ixT v0 zd) (za v1 zb))) zb)))))
   zt)
  (zc (zB (z01 kR (ixT (zA v1 rfl) zd) (zD (zr zn (zr zn (zr zn zb)))) (by with_unfolding_all rfl))
   (zf (zp (yr n hr.m rfl (zP (zA v1 rfl) (zP (zA v1 rfl) (z0w (jB rfl (CompSc.of (sx:=zi z02) (NX:= ["condition","place"]) (fr:= ["condition"]) (ix:= [0]) rfl rfl ()) (zT (zA v1 rfl)) (λk k k k k k=>jh) (λk k k k k k=>(zS j hr.m (za v1 (za v0 zb))))) zb))))))
   zt)
  (zc (zB (z01 kR (ixT (zA v1 rfl) zd) (zD (zr zn (zr zn zb))) (by with_unfolding_all rfl))
   (zf (zp (zS d hr.m (za v0 (za v1 zb)))))
   zt)
  (zf (zp kC))))),?_)
 generalize hK0:K=K1;generalize hK1:C=C1
 revert C1
 revert K1
 show z0l #[] ?_;show !(zg bP zH (rfl,!?_));rw[j6];by_cases hw:wordOf c="and"
 .refine ifT (wN hw) ?_;cases c with
  | an x y=>
   obtain⟨Fo,c1,Y,X,O,k1,k2⟩:=hc;cases X;show !(zg O j8 ?_);show !(zg O jF (!(th,y,q,Y,_,rfl,k2,hp,λz H1 l pl=>?_)));show(th,x,.pick y q,c1,_,rfl,k1.mono λb xs z=>l _ _ z,pl,λz' H2 G U=>t _ rfl z' H2 (l.trans G) U)
  | less x y=>show absurd hw (nb (by kernel_rfl))
  | same x y=>show absurd hw (nb (by kernel_rfl))
  | no x=>show absurd hw (nb (by kernel_rfl))
  | or x y=>show absurd hw (nb (by kernel_rfl))
 show ifF (wK hw) ?_;have eW:yy th c q=z9F th c q:=by cases c<;>first|rfl|show absurd rfl hw
 rw[eW]at t u;show !(yL p nd.me (zg nd.ahd (by rw[M];show zH) ?_));clear tp aw H1 l x1;show(tp,!(.inr (SqT.of x1),rfl,rfl,!?_));have hl:=J.len;have lk:=z2B q;by_cases aV:inV (.str (yd q)) [.str "sort",.str "cols",.str "both"]=true
 .refine ifT aV ?_;obtain⟨q',e,ek,eh,ea⟩:∃q',z9F th c q=some q'/\kids q'=(kids q).map (Qn.pick c)/\ze th q'=ze th q/\∀(H:Hp) (xs:List V),kQ H q xs->kQ H q' xs:=by
   cases q with
   | sort x r=>show !(rfl,rfl,λk k h=>h)
   | cols ns r=>show !(rfl,rfl,λk k h=>h)
   | both r s=>show !(rfl,rfl,λk k h=>h)
   | _=>show absurd aV (QD.mp (by kernel_rfl))
  show !(yL p (l _ _ nd.me) ?_);show !(z15 p (l _ _ nd.me) ?_);show !(km p (l _ _ nd.me) (wl,rfl,(_,SqL.of (l _ _ nd.wit)),?_));show jc (xs:=ws) (λi zs H'=>zw H1 H'/\zs.length=i/\jQ th C H' (((kids q).take i).map (Qn.pick c)) zs) (zw.refl _,rfl,by rw[w0N];rfl) ?_ ?_ ?_
  .rintro i zs H' hi ⟨o,D,_⟩;show(SqL.of (o _ _ (l _ _ nd.wit)),zG ∅)
  .rintro i y zs H' hi ⟨o,D,hq⟩;have I:i<(kids q).length:=by rw[<-hl];show(wg.mp hi).1
   obtain⟨v,L,pv⟩:=J.at (we I);rw[hi]at L;cases L;have s1:=l.trans o;show !(!(th,c,(kids q)[i],_,y,rfl,hc.mono λb xs z=>s1 _ _ z,pv.ev (Ev.of (Nt.of s1)),λx H3 S pl=>(o.trans S,by rw[wm,D];rfl,?_)));rw[wR,we I,wF];show(hq.ev (Ev.of (Nt.of S))).app (_,[],rfl,pl,rfl)
  .rintro zs H' ⟨o,D,hq⟩ lp Z;clear lp Z H4 n4 x4 lp;rw[hl,qf]at hq;have B:=l.trans (o.trans n4);show jD (q:=q') (xs:=xs) (B _ _ nd.ahd) (ea _ _ (nd.ahx.mono λb xs z=>B _ _ z)) (by rw[eh];show B _ _ nd.hds) x4 (by rw[ek];show hq.ev (Ev.of (Nt.of n4))) λx aj aN H' s' k k pl=>t _ e x H' (B.trans s') pl
 show ifF (QD.mpr aV) ?_;show !(yL p (l _ _ nd.me) (zg (l _ _ nd.ahd) (by rw[M];show zH) ?_));clear tp2 htp2 H2 G x2;show(tp2,!(.inr (SqT.of x2),rfl,rfl,!?_));have s2:=l.trans G;have R:=hp.ev (Ev.of (Nt.of s2));have N:zE H2 c (.ref cp):=hc.mono λb xs z=>s2 _ _ z
 cases q with
 | pair r s=>show ifT (by change inV (.str "pair") _=true;decide) (!(!(th,c,.pair,true,r,s,_,_,rfl,zbZ,N,hz,ok,R,λq' e z H' s' pl=>t q' e z H' (s2.trans s') pl,λe H' s'=>u e H' (s2.trans s'))))
 | join x y r s=>show ifT (by change inV (.str "join") _=true;decide) (!(!(th,c,.join x y,false,r,s,_,_,rfl,zbp,N,hz,ok,R,λq' e z H' s' pl=>t q' e z H' (s2.trans s') pl,λe H' s'=>u e H' (s2.trans s'))))
 | sort|cols|both=>show absurd (by kernel_rfl) aV
 | _=>show ifF (by kernel_rfl) (u rfl H2 s2)
inductive spTakes (C:Addr) (vs:List V) (H:Hp) (Q:VK) (E:XK):Prop
 | mk:∀th c q cv v,vs= [v,cv]->zE H c cv->c.size<=20->c.ok (ze th q)->jP th C H q v->(∀H',zw H H'->Q (.bl (yy th c q).isSome) H')->spTakes C vs H Q E
theorem zcz:FnScope ["place","condition"] ["place","condition"] (zi z70):=by done
theorem zco(F:Fun K "takes" "takes" z70 f fd)(T:Txt K mg)(a:Kn P w K mg base 5 "sent_within" ["condition","place"] (spSentW C)):FnOk P w K mg base CX0 6 f fd ["place","condition"] (spTakes C):=by
 clear zcz vs H Q E h F;obtain⟨th,c,q,cv,v,rfl,hc,hz,ok,hp,fin⟩:=h;intro aa A outer b hr;show(_,(zf (zp (cmE z3h (zS a hr.m (za v1 (za v0 zb))) kC))),?_);generalize hK0:K=K1;generalize hK1:C=C1
 revert C1
 revert K1
 show z0l #[] ?_;show !(!(th,c,q,cv,v,rfl,hc,hz,ok,hp,λq' e z H' s' pl=>(rfl,?_),λe H' s'=>(rfl,?_)))
 .have:=fin H' s';rw[e]at this;show this
 .have:=fin H' s';rw[e]at this;show this
theorem z2J(q:Qn):ze th (beneath q)=ze th q:=by
 induction q with
 | pick _ _ h=>show h
 | _=>rfl
theorem zcV(h:¬yd q="pick"):∀c r,q≠ .pick c r:=λc r e=>h (by rw[e];rfl)
theorem z0P(h:yd q="pick"):∃c r,q= .pick c r:=by
 cases q<;>first|show(_,_,rfl)|show absurd h (Qe (by kernel_rfl))
inductive spPasses (C:Addr) (vs:List V) (H:Hp) (Q:VK) (E:XK):Prop
 | mk:∀th c q cv v,vs= [cv,v]->zE H c cv->c.size<=20->c.ok (ze th q)->jP th C H q v->(∀H',zw H H'->Q (.bl (yy th c (beneath q)).isSome) H')->spPasses C vs H Q E
theorem z3O:FnScope ["condition","place","beneath"] ["condition","place"] (zi z5e):=by done
theorem zai(F:Fun K "passes" "passes" z5e f fd)(T:Txt K mg)(n:PC K C)(e:Kn P w K mg base 1 "is_pick" ["place"] (spIsPick C))(i:Kn P w K mg base 6 "takes" ["place","condition"] (spTakes C)):FnOk P w K mg base CX0 7 f fd ["condition","place"] (spPasses C):=by
 clear z3O vs H Q E h F;obtain⟨th,c,q,cv,v,rfl,hc,hz,ok,hp,fin⟩:=h;intro aa A outer p hr;show(_,(zc (seT 2 z3O v1)
  (zc (z4f (zX (zS e hr.m (za v2 zb)))
   (zf (seT 2 z3O (ixL (zA v2 rfl) zd))))
  (zf (zp (zS i hr.m (za v2 (za v0 zb))))))),?_)
 generalize hK0:K=K1;generalize hK1:C=C1
 revert C1
 revert K1
 show z0l #[] ?_;show !?_;show yV (λm σ H'=>∃(r:Qn) (u:V),σ= [some cv,some v,some u]/\H'=H/\jP th C H r u/\beneath r=beneath q/\m=depth r) (depth q) (q,v,rfl,rfl,hp,rfl,rfl) ?_;rintro m σ H' ⟨r,u,rfl,rfl,j,l,rfl⟩;show !(th,r,u,rfl,j,?_);show !?_;by_cases hw:yd r="pick"
 .refine ifT (wN hw) ?_;obtain⟨d,t,rfl⟩:=z0P hw;obtain⟨wv,⟨a,ah,hd,wl,dx,qv,b,xs,rfl,nd⟩,pt⟩:=j;show(λσ H2=>∃u,σ= [some cv,some v,some u]/\H2=H'/\jP th C H' t u,?_,?_)
  .rintro σ' H2 ⟨u,rfl,rfl,h⟩;show(depth t,by change depth t<depth t+1;lia,t,u,rfl,rfl,h,l,rfl)
  .refine !(km n nd.me (zv nd.wit zH ?_));show !(rfl,pt)
 .refine ifF (wK hw) ?_;rw[<-l,z4Q (zcV hw)]at fin;have o:ze th r=ze th q:=by rw[<-z2J r,l,z2J]
  show !(!(th,c,r,cv,u,rfl,hc,hz,by rw[o];show ok,j,fin))
theorem zar:decide (wordOf c="and")=zam c:=by
 cases c with
 | an x y=>change decide (("and":Str)="and")=true;decide
 | less x y=>change decide (("less":Str)="and")=false;decide
 | same x y=>change decide (("same":Str)="and")=false;decide
 | no x=>change decide (("not":Str)="and")=false;decide
 | or x y=>change decide (("or":Str)="and")=false;decide
theorem za9(h:¬yd r="pick"):kr th (.pick c r)=yy th c r:=by
 cases r<;>first|rfl|show absurd rfl h
inductive spTurnedPick (C:Addr) (vs:List V) (H:Hp) (Q:VK) (E:XK):Prop
 | mk:∀th (c:Cond) r v,vs= [v]->c.ok (ze th r)->c.size<=20->jP th C H (.pick c r) v->zc5 th C H (kr th (.pick c r)) Q->spTurnedPick C vs H Q E
theorem z0N:FnScope ["place","condition","inner"] ["place"] (zi z1b):=by done
theorem z4D(F:Fun K "turned_pick" "turned_pick" z1b f fd)(T:Txt K mg)(x:PC K C)(l:Kn P w K mg base 1 "is_pick" ["place"] (spIsPick C))(i:Kn P w K mg base 5 "sent_within" ["condition","place"] (spSentW C))(n:Kn P w K mg base 7 "passes" ["condition","place"] (spPasses C))(j:Kn P w K mg base 3 "picked" ["condition","place"] (spPickedP C)):FnOk P w K mg base CX0 8 f fd ["place"] (spTurnedPick C):=by
 clear z0N vs H Q E h F;obtain⟨th,c,r,v,rfl,ok,hz,hp,p,q⟩:=h;obtain⟨wv,⟨a,ah,hd,wl,dx,qv,b,xs,rfl,nd⟩,s⟩:=id hp;obtain⟨cv,rfl,hc⟩:=id nd.ahx;obtain⟨cp,ys,rfl,D⟩:=z0G hc;intro aa A outer U hr;show(_,(zc (seT 1 z0N (ixT (zA v0 rfl) zd))
  (zc (seT 2 z0N (ixL (zA v0 rfl) zd))
  (zc (zB (PW.pt (z37 (cmT zO (ixT v1 zd) zn) (z28 (jJ (zX (zS l hr.m (za v2 zb)))))))
   (zf (zp (zS i hr.m (za v1 (za v2 zb)))))
   zt)
  (zc (zB (zX (zS n hr.m (za v1 (za v2 zb))))
   (zf (zp (zS j hr.m (zl (ixT (zA v2 rfl) zd) (zK (zS j hr.m (za v1 (zl (ixL (zA v2 rfl) zd) zb))) zb)))))
   zt)
  (zf (zp kC)))))),?_)
 generalize hK0:K=K1;generalize hK1:C=C1
 revert C1
 revert K1
 show z0l #[] ?_;show !(yL x nd.me (zg nd.ahd j8 ?_));show !(km x nd.me (zv nd.wit zH ?_));show !(zg D zH (rfl,!?_));rw[j6,zar];by_cases ha:zam c=true
 .refine ifT ha ?_;have e:kr th (.pick c r)=yy th c r:=by
   by_cases hw:yd r="pick"
   .obtain⟨d,t,rfl⟩:=z0P hw
    change(if zam c=true then _ else _)=_
    rw[qd ha]
   .exact za9 hw
  rw[e]at p q;show !(!(th,c,r,_,wv,rfl,hc,hz,ok,s,p,q))
 .refine ifF (QD.mpr ha) ?_;show !(th,r,wv,rfl,s,?_);show !?_;by_cases hw:yd r="pick"
  .rw [wN hw];show ifF rfl ?_;obtain⟨d,t,rfl⟩:=z0P hw;obtain⟨w2,⟨a2,R,Y,X,O,S,b2,N,rfl,u⟩,pt⟩:=id s;obtain⟨L,rfl,G⟩:=id u.ahx;have e:kr th (.pick c (.pick d t))=if(yy th c (beneath t)).isSome=true then some (.pick d (.pick c t))else none:=by
    change(if zam c=true then _ else _)=_
    rw[wW ha]
   rw[e]at p q;show !(!(th,c,.pick d t,_,_,rfl,hc,hz,ok,s,λH1 o=>!?_));have B:beneath (.pick d t)=beneath t:=rfl;rw[B];by_cases hs:(yy th c (beneath t)).isSome=true
   .rw [qd hs]at p;show ifT hs ?_;show !(yL x (o _ _ u.me) (zg (o _ _ u.ahd) j8 ?_));show !(!(km x (o _ _ u.me) (zv (o _ _ u.wit) zH (th,c,t,_,w2,rfl,hc.mono λb xs z=>o _ _ z,pt.ev (Ev.of (Nt.of o)),λz H2 I pl=>?_))));have s2:=o.trans I;show(th,d,.pick c t,L,_,rfl,G.mono λb xs z=>s2 _ _ z,pl,λz' y M J=>p _ rfl z' y (s2.trans M) J)
   .rw [wW hs]at q;show ifF (QD.mpr hs) ?_;show q rfl H1 o
  .rw [wK hw];show ifT rfl ?_;rw[za9 hw]at p q;show !(!(th,c,r,_,wv,rfl,hc,hz,ok,s,p,q))
theorem z7G{hd:Addr}(ha:H ah=some (.tup xs))(w:kQ H q xs)(j:H hd=some (.lst ((ze th q).map V.str)))(A:H wl=some (.lst ws))(hp:jQ th C H (kids q) ws)
  (fin:∀(x:Addr) (H':Hp),zw H H'->jP th C H' q (.ref x)->R x .non H'):
  ∀x dx,H x=none->H dx=none->dx≠x->spPInit K C (.ref x::([.ref ah,.ref hd,.ref wl]++[])) (upd (upd H dx (.own x)) x (.ins C dx [])) (R x) E:=by
 intro x dx c b p;obtain⟨t,q',D,aj,i,n,bU,l,o,e,h1,h2,a,u,h,s⟩:=jD (K:=K) (E:=E) (Q:=λv H'=>∀z,v= .ref z->R z .non H') ha w j A hp (λz aj aN H' s' m m pl y f=>by cases f;show fin z H' s' pl) x dx c b p;show(t,q',D,aj,i,n,bU,l,o,e,h1,h2,a,u,h,λqv H' d r B=>(s qv H' d r B).2 x rfl)
theorem z2c(h:yd q="first"):∃n r,q= .first n r:=by
 cases q<;>first|show(_,_,rfl)|show absurd h (Qe (by kernel_rfl))
theorem z1H(h:yd q="cols"):∃ns r,q= .cols ns r:=by
 cases q<;>first|show(_,_,rfl)|show absurd h (Qe (by kernel_rfl))
theorem z2O(h:yd q="sort"):∃a r,q= .sort a r:=by
 cases q<;>first|show(_,_,rfl)|show absurd h (Qe (by kernel_rfl))
inductive spTurnedFirst (C:Addr) (vs:List V) (H:Hp) (Q:VK) (E:XK):Prop
 | mk:∀th n r v,vs= [v]->jP th C H (.first n r) v->zc5 th C H (kr th (.first n r)) Q->spTurnedFirst C vs H Q E
theorem z0m:FnScope ["place","inner","beneath"] ["place"] (zi z0S):=by done
theorem z4n(F:Fun K "turned_first" "turned_first" z0S f fd)(T:Txt K mg)(e:PC K C)(c:KnC P w K mg base 1 "Place" ["self","ahead","heads","within"] (spPInit K C) C):FnOk P w K mg base CX0 3 f fd ["place"] (spTurnedFirst C):=by
 clear z0m vs H Q E h F;obtain⟨th,n,r,v,rfl,hp,u,I⟩:=h;obtain⟨wv,⟨a,ah,hd,wl,dx,qv,b,xs,rfl,nd⟩,G⟩:=id hp;have ex:xs= [.str "first",.int n]:=nd.ahx;subst ex;obtain⟨us,⟨a2,N,aX,dy,L,X,b2,o,rfl,d⟩,B⟩:=zZ.mp G;obtain⟨R,y⟩:=z0C d.ahx;intro aa A outer Z hr;show(_,(zc (seT 1 z0m (ixL (zA v0 rfl) zd))
  (zc (zB (cmT zO (ixT (zA v1 rfl) zd) zn)
   (zf (zp (yr c hr.m rfl (zQ (zD (zr zn (zK (zF (z5R rfl) rfl T.min PyProof.Rows.boot_min (zl (ixT (zA v0 rfl) zd) (zl (ixT (zA v1 rfl) zd) zb))) zb))) (zP (zA v0 rfl) (zP (zA v1 rfl) zb))))))
   zt)
  (zc (zB (cmT zO (ixT (zA v1 rfl) zd) zn)
   (zc (seT 2 z0m (ixL (zA v1 rfl) zd))
   (zf (zp (yr c hr.m rfl (zP (zA v1 rfl) (zP (zA v1 rfl) (jH (zC (zK (yr c hr.m rfl (zP (zA v0 rfl) (zP (zA v2 rfl) (jH (zC (za v2 zb)) zb)))) zb)) zb)))))))
   zt)
  (zf (zp kC))))),?_)
 generalize hK0:K=K1;generalize hK1:C=C1
 revert C1
 revert K1
 show z0l #[] ?_;show !(km e nd.me (zv nd.wit zH ?_));show !(yL e d.me (zg d.ahd (by rw[y];show zH) (rfl,!?_)));rw[j6];by_cases h1:yd r="first"
 .refine ifT (wN h1) ?_;obtain⟨m,t,rfl⟩:=z2c h1;have ex2:o= [.str "first",.int m]:=d.ahx;subst ex2;show !(yL e nd.me (zg nd.ahd j8 ?_));show !(yL e d.me (zg d.ahd j8 (n,m,rfl,(yG rfl),λtp D=>?_)));clear tp D H1 n1 x1 tp;rw[show(if m<n then m else n)=min n m by split<;>lia]at x1;show !(z15 e (n1 _ _ nd.me) ?_);show !(km e (n1 _ _ d.me) ?_);show jD (q:= .first (min n m) t) (xs:= [.str "first",.int (min n m)]) x1 rfl (n1 _ _ nd.hds) (n1 _ _ d.wit) (B.ev (Ev.of (Nt.of n1))) λx aj aN H' s' k k pl=>u _ rfl x H' (n1.trans s') pl
 show ifF (wK h1) ?_;show !(yL e d.me (zg d.ahd (by rw[y];show zH) (rfl,!?_)));rw[j6];by_cases h2:yd r="cols"
 .refine ifT (wN h2) ?_;obtain⟨ns,t,rfl⟩:=z1H h2;obtain⟨w3,O,rfl,p,rfl⟩:=B;obtain⟨Fq,⟨J,M,S,U,Fu,Fv,Y,Fw,rfl,s⟩,_⟩:=zZ.mp p;show !(km e d.me (zv d.wit zH ?_));show !(yL e d.me ?_);show !(z15 e d.me ?_);show !(yL e nd.me ?_);show !(z15 e s.me ?_);show !?_;clear lp bB H1 n1 x1;show z7G (q:= .first n t) (xs:= [.str "first",.int n]) (n1 _ _ nd.ahd) rfl (n1 _ _ s.hds) x1 (_,[],rfl,p.ev (Ev.of (Nt.of n1)),rfl) λx H2 s2 pl=>(rfl,(yG rfl),λi j=>?_)
  clear i j H3 n3 x3 i;have l:=n1.trans (s2.trans n3);show jD (q:= .cols ns (.first n t)) (xs:=o) (l _ _ d.ahd) (d.ahx.mono λb xs z=>l _ _ z) (l _ _ d.hds) x3 (_,[],rfl,pl.ev (Ev.of (Nt.of n3)),rfl) λx aj aN H' s' k k pl=>u _ rfl x H' (l.trans s') pl
 show ifF (wK h2) ?_;show I ?_ H (zw.refl _);cases r<;>first|rfl|show absurd rfl h1|show absurd rfl h2
theorem zdg(h:kQ H q xs):∀v∈xs,ko v=true\/∃p zs,v= .ref p/\SqT K H p zs:=by
 cases q with
 | pick c q=>
  obtain⟨x,rfl,hc⟩:=h;obtain⟨p,ys,rfl,hp⟩:=z0G hc;intro v m;simp only[wL,qA,QQ]at m;rcases m with rfl|rfl
  .exact .inl rfl
  .exact .inr (p,!(SqT.of hp))
 | cols ns q=>
  obtain⟨x,rfl,d⟩:=h;intro v m;simp only[wL,qA,QQ]at m;rcases m with rfl|rfl
  .exact .inl rfl
  .exact .inr (x,!(SqT.of d))
 | table n=>
  intro v m;rw[show xs=_ from h]at m;simp only[wL,qA,QQ]at m;rcases m with rfl|rfl<;>show .inl rfl
 | pair q r=>
  intro v m;rw[show xs=_ from h]at m;simp only[wL,qA,QQ]at m;rcases m with rfl<;>show .inl rfl
 | join a b q r=>
  intro v m;rw[show xs=_ from h]at m;simp only[wL,qA,QQ]at m;rcases m with rfl|rfl|rfl<;>show .inl rfl
 | both q r=>
  intro v m;rw[show xs=_ from h]at m;simp only[wL,qA,QQ]at m;rcases m with rfl<;>show .inl rfl
 | first n q=>
  intro v m;rw[show xs=_ from h]at m;simp only[wL,qA,QQ]at m;rcases m with rfl|rfl<;>show .inl rfl
 | group a b n s q=>
  intro v m;rw[show xs=_ from h]at m;simp only[wL,qA,QQ]at m;rcases m with rfl|rfl|rfl|rfl|rfl<;>show .inl rfl
 | sort a q=>
  intro v m;rw[show xs=_ from h]at m;simp only[wL,qA,QQ]at m;rcases m with rfl|rfl<;>show .inl rfl
theorem zde{a:Str}(h:kQ H q xs):xs=(["sort",a]:List Str).map V.str↔∃r,q= .sort a r:=by
 constructor
 .intro e;obtain⟨r,c⟩:=z0C h;rw[e]at c;have d:yd q="sort":=by
   have:=(List.cons.inj c).1
   injection this with this
   show this.symm
  obtain⟨b,t,rfl⟩:=z2O d;rw[show xs=_ from h]at e;have:=(List.cons.inj (List.cons.inj e).2).1
  injection this with this
  rw[this];show(t,rfl)
 .rintro⟨r,rfl⟩;show h
inductive spTurned (C:Addr) (vs:List V) (H:Hp) (Q:VK) (E:XK):Prop
 | mk:∀th q v,vs= [v]->wfQ th q->jP th C H q v->zc5 th C H (kr th q) Q->spTurned C vs H Q E
theorem z6c:FnScope ["place","word"] ["place"] (zi z4P):=by done
theorem zat(F:Fun K "turned" "turned" z4P f fd)(T:Txt K mg)(j:PC K C)(o:KnC P w K mg base 1 "Place" ["self","ahead","heads","within"] (spPInit K C) C)(i:Kn P w K mg base 8 "turned_pick" ["place"] (spTurnedPick C))(d:Kn P w K mg base 3 "turned_first" ["place"] (spTurnedFirst C)):FnOk P w K mg base CX0 9 f fd ["place"] (spTurned C):=by
 clear z6c vs H Q E h F;obtain⟨th,q,v,rfl,wf,hp,u,p⟩:=h;obtain⟨ws,⟨a,ah,hd,wl,dx,qv,b,xs,rfl,nd⟩,B⟩:=zZ.mp hp;obtain⟨S,R⟩:=z0C nd.ahx;intro aa A outer U hr;have J:=z1P hr;show(_,(zc (seT 1 z6c (ixT (zA v0 rfl) zd))
  (zc (zB (cmT zO v1 zn)
   (zf (zp (zS i hr.m (za v0 zb))))
   zt)
  (zc (zB (cmT zO v1 zn)
   (zf (zp (zS d hr.m (za v0 zb))))
   zt)
  (zc (zB (PW.pt (z1L (cmT zO v1 zn) (z1E (cmT zO (ixT (zA (ixL (zA v0 rfl) zd) rfl) zd) zn))))
   (zf (zp (yr o hr.m rfl (zP (zA v0 rfl) (zP (zA v0 rfl) (zP (zA (ixL (zA v0 rfl) zd) rfl) zb))))))
   zt)
  (zc (zB (PW.pt (z1L (cmT zO v1 zn) (z1E (cmT (zbH (K:=K) rfl J) (zA (ixL (zA v0 rfl) zd) rfl) (zA v0 rfl)))))
   (zf (zp (ixL (zA v0 rfl) zd)))
   zt)
  (zf (zp kC))))))),?_)
 generalize hK0:K=K1;generalize hK1:C=C1
 revert C1
 revert K1
 show z0l #[] ?_;show !(yL j nd.me (zg nd.ahd (by rw[R];show zH) ?_));show !(rfl,!?_);rw[j6];by_cases h1:yd q="pick"
 .refine ifT (wN h1) ?_;obtain⟨c,r,rfl⟩:=z0P h1;show !(th,c,r,_,rfl,wf.1,wf.2.1,hp,u,p)
 show ifF (wK h1) ?_;show !(rfl,!?_);rw[j6];by_cases h2:yd q="first"
 .refine ifT (wN h2) ?_;obtain⟨n,r,rfl⟩:=z2c h2;show !(th,n,r,_,rfl,hp,u,p)
 show ifF (wK h2) ?_;show !(rfl,!?_);rw[j6];by_cases h3:yd q="cols"
 .refine ifT (wN h3) ?_;obtain⟨ns,r,rfl⟩:=z1H h3;obtain⟨w2,L,rfl,s,rfl⟩:=id B;obtain⟨us,⟨a2,z,O,N,G,I,b2,y,rfl,l⟩,D⟩:=zZ.mp s;obtain⟨X,M⟩:=z0C l.ahx;show !(km j nd.me (zv nd.wit zH (yL j l.me (zg l.ahd (by rw[M];show zH) (rfl,!?_)))));rw[j6];by_cases h4:yd r="cols"
  .refine ifT (wN h4) ?_;obtain⟨Y,t,rfl⟩:=z1H h4;show !(yL j nd.me (!(z15 j nd.me (!(km j nd.me (zv nd.wit zH (km j l.me ?_)))))));show jD (q:= .cols ns t) (xs:=xs) nd.ahd nd.ahx nd.hds l.wit D λx aj aN H' s' k k pl=>u _ rfl x H' s' pl
  .refine ifF (wK h4) ?_;show !(rfl,!?_);rw[j6];show ifF (wK (nb (by kernel_rfl))) ?_;show p ?_ H (zw.refl _);cases r<;>first|rfl|show absurd rfl h4
 show ifF (wK h3) ?_;show !(rfl,!?_);rw[j6];by_cases h4:yd q="sort"
 .refine ifT (wN h4) ?_;obtain⟨n,r,rfl⟩:=z2O h4;obtain⟨w2,L,rfl,s,rfl⟩:=id B;obtain⟨us,⟨a2,z,O,N,G,I,b2,y,rfl,l⟩,D⟩:=zZ.mp s;have ex:xs=(["sort",n]:List Str).map V.str:=nd.ahx;show !(km j nd.me (zv nd.wit zH (yL j l.me (!(yL j nd.me (z,ah,y,["sort",n],rfl,rfl,SqT.of l.ahd,SqT.of (by rw[<-ex];show nd.ahd),zdg l.ahx,λt ht=>!?_))))));have hs:=zde (a:=n) l.ahx;by_cases h5:t=true
  .refine ifT h5 ?_;obtain⟨t',rfl⟩:=hs.mp (ht.mp h5);show !(km j nd.me (zv nd.wit zH ?_));show u (.sort n t') (by change(if n=n then _ else _)=_;rw[qd rfl]) a2 H (zw.refl _) s
  .refine ifF (QD.mpr h5) ?_;show p ?_ H (zw.refl _);cases r with
   | sort m t'=>
    change(if m=n then _ else _)=_
    rw[wW λe=>h5 (ht.mpr (hs.mpr (t',by rw[e])))]
   | _=>rfl
 show ifF (wK h4) ?_;show p ?_ H (zw.refl _);cases q<;>first|rfl|show absurd rfl h1|show absurd rfl h2|show absurd rfl h3|show absurd rfl h4
theorem z84(h:yd q="table"):∃n,q= .table n:=by
 cases q<;>first|show(_,rfl)|show absurd h (Qe (by kernel_rfl))
theorem z93(h:yd q="pair"):∃r s,q= .pair r s:=by
 cases q<;>first|show(_,_,rfl)|show absurd h (Qe (by kernel_rfl))
theorem z91(h:yd q="join"):∃a b r s,q= .join a b r s:=by
 cases q<;>first|show(_,_,_,_,rfl)|show absurd h (Qe (by kernel_rfl))
theorem z8Y(h:yd q="both"):∃r s,q= .both r s:=by
 cases q<;>first|show(_,_,rfl)|show absurd h (Qe (by kernel_rfl))
theorem z7c(h:yd q="group"):∃a b n s r,q= .group a b n s r:=by
 cases q<;>first|show(_,_,_,_,_,rfl)|show absurd h (Qe (by kernel_rfl))
theorem z7r:∀{ns a:List Str},ns.map V.str=a.map V.str->ns=a
 | [],[],_=>rfl
 | [],_::_,h=>by cases h
 | _::_,[],h=>by cases h
 | n::ns,m::a,h=>by
  rw[qF,qF]at h
  injection h with h1 h2
  injection h1 with h1
  rw[h1,z7r h2]
theorem z35{a b:Side}(h:a.v=b.v):a=b:=by
 cases a<;>cases b<;>first|(injection h with h;rw[h])|cases h
theorem z1i{d:Cond}{v:V}(h:zE H c v)(g:zE H d v):wordOf c=wordOf d:=by
 obtain⟨p,ys,rfl,hp⟩:=z0G h;obtain⟨p',a,e,a7⟩:=z0G g;cases e;rw[hp]at a7
 injection a7 with a7
 injection a7 with a7
 injection a7 with a7 _
 injection a7 with a7
theorem zbF:∀{d:Cond} {v:V},zE H c v->zE H d v->c=d:=by
 induction c with
 | less a b=>
  intro d' v h g;have f:=z1i h g;cases d' with
  | less a' b'=>
   obtain⟨p,rfl,hp⟩:=h;obtain⟨p',e,a7⟩:=g;cases e;rw[hp]at a7
   injection a7 with a7
   injection a7 with a7
   injection a7 with _ a7
   injection a7 with h1 a7
   injection a7 with h2 _
   rw[z35 h1,z35 h2]
  | _=>show absurd f (Qe (by kernel_rfl))
 | same a b=>
  intro d' v h g;have f:=z1i h g;cases d' with
  | same a' b'=>
   obtain⟨p,rfl,hp⟩:=h;obtain⟨p',e,a7⟩:=g;cases e;rw[hp]at a7
   injection a7 with a7
   injection a7 with a7
   injection a7 with _ a7
   injection a7 with h1 a7
   injection a7 with h2 _
   rw[z35 h1,z35 h2]
  | _=>show absurd f (Qe (by kernel_rfl))
 | no c r=>
  intro d' v h g;have f:=z1i h g;cases d' with
  | no c'=>
   obtain⟨p,x,rfl,hp,h1⟩:=h;obtain⟨p',o,e,a7,l⟩:=g;cases e;rw[hp]at a7
   injection a7 with a7
   injection a7 with a7
   injection a7 with _ a7
   injection a7 with e1 _
   subst e1;rw[r h1 l]
  | _=>show absurd f (Qe (by kernel_rfl))
 | an c d j i=>
  intro d' v h g;have f:=z1i h g;cases d' with
  | an c' d'=>
   obtain⟨p,x,y,rfl,hp,h1,h2⟩:=h;obtain⟨p',o,q,e,a7,l,n⟩:=g;cases e;rw[hp]at a7
   injection a7 with a7
   injection a7 with a7
   injection a7 with _ a7
   injection a7 with e1 a7
   injection a7 with e2 _
   subst e1 e2;rw[j h1 l,i h2 n]
  | _=>show absurd f (Qe (by kernel_rfl))
 | or c d j i=>
  intro d' v h g;have f:=z1i h g;cases d' with
  | or c' d'=>
   obtain⟨p,x,y,rfl,hp,h1,h2⟩:=h;obtain⟨p',o,q,e,a7,l,n⟩:=g;cases e;rw[hp]at a7
   injection a7 with a7
   injection a7 with a7
   injection a7 with _ a7
   injection a7 with e1 a7
   injection a7 with e2 _
   subst e1 e2;rw[j h1 l,i h2 n]
  | _=>show absurd f (Qe (by kernel_rfl))
theorem z39{v:V}(h:QAt H q v):∃p xs kv,v= .ref p/\H p=some (.tup (xs++kv))/\kQ H q xs/\yt H (kids q) kv:=by
 cases q with
 | table n=>obtain⟨p,rfl,hp⟩:=h;show(p,_,[],rfl,hp,rfl,rfl)
 | pick c q=>obtain⟨p,x,y,rfl,hp,e,d⟩:=h;show(p,[_,_],[y],rfl,hp,(x,rfl,e),y,[],rfl,d,rfl)
 | cols ns q=>obtain⟨p,x,y,rfl,hp,e,d⟩:=h;show(p,[_,_],[y],rfl,hp,(x,rfl,e),y,[],rfl,d,rfl)
 | first n q=>obtain⟨p,y,rfl,hp,d⟩:=h;show(p,[_,_],[y],rfl,hp,rfl,y,[],rfl,d,rfl)
 | group a b n s q=>obtain⟨p,y,rfl,hp,d⟩:=h;show(p,[_,_,_,_,_],[y],rfl,hp,rfl,y,[],rfl,d,rfl)
 | sort a q=>obtain⟨p,y,rfl,hp,d⟩:=h;show(p,[_,_],[y],rfl,hp,rfl,y,[],rfl,d,rfl)
 | pair q r=>obtain⟨p,x,y,rfl,hp,e,d⟩:=h;show(p,[_],[x,y],rfl,hp,rfl,x,[y],rfl,e,y,[],rfl,d,rfl)
 | join a b q r=>obtain⟨p,x,y,rfl,hp,e,d⟩:=h;show(p,[_,_,_],[x,y],rfl,hp,rfl,x,[y],rfl,e,y,[],rfl,d,rfl)
 | both q r=>obtain⟨p,x,y,rfl,hp,e,d⟩:=h;show(p,[_],[x,y],rfl,hp,rfl,x,[y],rfl,e,y,[],rfl,d,rfl)
theorem z0A{v:V}(h:QAt H q v)(g:QAt H r v):yd r=yd q:=by
 obtain⟨p,xs,kv,rfl,hp,ha,_⟩:=z39 h;obtain⟨p',c,b,e,a7,a,_⟩:=z39 g;cases e;obtain⟨z,rfl⟩:=z0C ha;obtain⟨z',rfl⟩:=z0C a;rw[hp,List.cons_append,List.cons_append]at a7
 injection a7 with a7
 injection a7 with a7
 injection a7 with a7 _
 injection a7 with a7
 show a7.symm
theorem zeA:∀{r:Qn} {v:V},QAt H q v->QAt H r v->q=r:=by
 induction q with
 | table n=>
  intro r' v h g;obtain⟨u,rfl⟩:=z84 (z0A h g);obtain⟨p,rfl,hp⟩:=h;obtain⟨p',e,a7⟩:=g;cases e;rw[hp]at a7;cases a7
  rfl
 | pick c q l=>
  intro r' v h g;obtain⟨c',q',rfl⟩:=z0P (z0A h g);obtain⟨p,x,y,rfl,hp,h1,h2⟩:=h;obtain⟨p',t,o,e,a7,f,d⟩:=g;cases e;rw[hp]at a7;cases a7;rw[zbF h1 f,l h2 d]
 | cols ns q l=>
  intro r' v h g;obtain⟨w,q',rfl⟩:=z1H (z0A h g);obtain⟨p,x,y,rfl,hp,h1,h2⟩:=h;obtain⟨p',t,o,e,a7,f,d⟩:=g;cases e;rw[hp]at a7;cases a7;rw[h1]at f
  injection f with f
  injection f with f
  rw[z7r f,l h2 d]
 | pair q r j i=>
  intro r' v h g;obtain⟨q',r',rfl⟩:=z93 (z0A h g);obtain⟨p,x,y,rfl,hp,h1,h2⟩:=h;obtain⟨p',t,o,e,a7,f,d⟩:=g;cases e;rw[hp]at a7;cases a7;rw[j h1 f,i h2 d]
 | join a b q r j i=>
  intro r' v h g;obtain⟨a',b',q',r',rfl⟩:=z91 (z0A h g);obtain⟨p,x,y,rfl,hp,h1,h2⟩:=h;obtain⟨p',t,o,e,a7,f,d⟩:=g;cases e;rw[hp]at a7;cases a7;rw[j h1 f,i h2 d]
 | both q r j i=>
  intro r' v h g;obtain⟨q',r',rfl⟩:=z8Y (z0A h g);obtain⟨p,x,y,rfl,hp,h1,h2⟩:=h;obtain⟨p',t,o,e,a7,f,d⟩:=g;cases e;rw[hp]at a7;cases a7;rw[j h1 f,i h2 d]
 | first n q l=>
  intro r' v h g;obtain⟨u,q',rfl⟩:=z2c (z0A h g);obtain⟨p,y,rfl,hp,h2⟩:=h;obtain⟨p',o,e,a7,d⟩:=g;cases e;rw[hp]at a7;cases a7;rw[l h2 d]
 | group a b n s q l=>
  intro r' v h g;obtain⟨a',b',u,s',q',rfl⟩:=z7c (z0A h g);obtain⟨p,y,rfl,hp,h2⟩:=h;obtain⟨p',o,e,a7,d⟩:=g;cases e;rw[hp]at a7;cases a7;rw[l h2 d]
 | sort a q l=>
  intro r' v h g;obtain⟨a',q',rfl⟩:=z2O (z0A h g);obtain⟨p,y,rfl,hp,h2⟩:=h;obtain⟨p',o,e,a7,d⟩:=g;cases e;rw[hp]at a7;cases a7;rw[l h2 d]
theorem NodeAt.ev{a hd:Addr}{b1:Bool}(e:Ev th C H H1)(h:NodeAt th C H q a ws ah hd wl dx qv b xs)(h1:H1 a=some (.ins C dx (jC ah hd wl qv b1)))(o:b1=b\/nf th q):NodeAt th C H1 q a ws ah hd wl dx qv b1 xs:=by
 have c:∀b xs,H b=some (.tup xs)->H1 b=some (.tup xs):=λb xs z=>e.tup z
 show(h1,e.tup h.ahd,h.ahx.mono c,e.lst h.hds,e.lst h.wit,h.qst.mono c,λz=>?_);rcases o with rfl|o
 .exact h.set z
 .exact o
def Ev.refl(H:Hp):Ev th C H H:=Ev.of (Nt.refl H)
theorem Ev.trans(x:Ev th C H H1)(y:Ev th C H1 H2):Ev th C H H2:=by
 show(λb o e n m=>y.t b o (x.t b o e n m) n m,λa dx ah hd wl qv b e=>?_);obtain⟨b1,c,o1⟩:=x.n a dx ah hd wl qv b e;obtain⟨b2,d,o2⟩:=y.n a dx ah hd wl qv b1 c;show(b2,d,?_);rcases o2 with rfl|⟨rfl,o2⟩
 .exact o1
 .refine .inr (rfl,λq ws xs nd=>?_);show o2 q ws xs (nd.ev x c ?_);rcases o1 with rfl|⟨_,o1⟩
  .exact .inl rfl
  .exact .inr (o1 q ws xs nd)
theorem zb8{a hd:Addr}(h:NodeAt th C H q a ws ah hd wl dx qv b xs)(n:nf th q):Ev th C H (upd H a (.ins C dx (jC ah hd wl qv true))):=by
 show(λb' o e v m=>?_,λa' aj d f bU aN b' e=>?_)
 .rw [zj λz=>by rw[z,h.me]at e;cases e;show m _ _ _ rfl];show e
 .by_cases z:a'=a
  .subst z;rw[h.me]at e;have c:dx=aj/\ah=d/\hd=f/\wl=bU/\qv=aN/\b=b':=by
    unfold jC at e;simp only[Option.some.injEq,HO.ins.injEq,List.cons.injEq,Prod.mk.injEq,true_and,and_true,V.ref.injEq,V.bl.injEq]at e;show e
   obtain⟨rfl,rfl,rfl,rfl,rfl,rfl⟩:=c;show(true,zh,.inr (rfl,λq' j i nd=>by rw[zeA nd.qst h.qst];show n))
  .exact(b',by rw[zj z];show e,.inl rfl)
inductive SetV (C:Addr) (H:Hp) (u:V):Prop
 | mk:∀a dx ah hd wl qv,u= .ref a->H a=some (.ins C dx (jC ah hd wl qv true))->SetV C H u
theorem SetV.ev(e:Ev th C H H1)(h:SetV C H u):SetV C H1 u:=by
 obtain⟨a,dx,ah,hd,wl,qv,rfl,h⟩:=h;obtain⟨b,h1,o⟩:=e.n a dx ah hd wl qv true h;have:b=true:=by
  rcases o with o|o
  .exact o
  .exact o.1
 subst this;show(a,dx,ah,hd,wl,qv,rfl,h1)
theorem SetV.nf{q:Qn}{u:V}(h:SetV C H u)(p:jP th C H q u):nf th q:=by
 obtain⟨a,dx,ah,hd,wl,qv,rfl,h⟩:=h;obtain⟨ws,⟨a',c,d,bU,aj,aN,b,xs,e,nd⟩,_⟩:=zZ.mp p;cases e;have e:=nd.me;rw[h]at e;have:b=true:=by
  unfold jC at e;simp only[Option.some.injEq,HO.ins.injEq,List.cons.injEq,Prod.mk.injEq,true_and,and_true,V.ref.injEq,V.bl.injEq]at e;show e.2.2.2.2.2.symm
 show nd.set this
def PlJ(th:Str->List Str)(C:Addr)(H:Hp)(q:Qn)(v:V)(j:Nat):Prop:=∃ws,Node th C H q v ws/\jQ th C H (kids q) ws/\∀u∈ws.take j,SetV C H u
theorem PlJ.of{v:V}(h:jP th C H q v):PlJ th C H q v 0:=by
 obtain⟨ws,h1,h2⟩:=zZ.mp h;show(ws,h1,h2,λu m=>by rw[w0N]at m;cases m)
theorem PlJ.pl{v:V}(h:PlJ th C H q v j):jP th C H q v:=by
 obtain⟨ws,h1,h2,_⟩:=h;show zZ.mpr (ws,h1,h2)
theorem PlJ.ev{v:V}(e:Ev th C H H1)(h:PlJ th C H q v j):PlJ th C H1 q v j:=by
 obtain⟨ws,h1,h2,a⟩:=h;show(ws,h1.ev e,h2.ev e,λu m=>(a u m).ev e)
def z6W(th:Str->List Str)(C:Addr)(H:Hp):List (Qn×Nat)->List V->Prop
 | [],vs=>vs= []
 | (p,i)::c,vs=>∃a v us,vs= .ref a::us/\H a=some (.tup [v,.int (i:Int)])/\PlJ th C H p v i/\z6W th C H c us
theorem z6W.ev(e:Ev th C H H1):∀{c:List (Qn×Nat)} {vs:List V},z6W th C H c vs->z6W th C H1 c vs
 | [],_,h=>h
 | (p,i)::c,_,(a,v,us,d,h1,h2,b)=>(a,v,us,d,e.tup h1,h2.ev e,b.ev e)
theorem z6W.len:∀{c:List (Qn×Nat)} {vs:List V},z6W th C H c vs->vs.length=c.length
 | [],_,h=>by rw[show _= []from h];rfl
 | (p,i)::c,_,(a,v,us,d,_,_,b)=>by rw[d,wP,wP,b.len]
theorem z6W.at:∀{c:List (Qn×Nat)} {vs:List V} {j:Nat} {x:V},z6W th C H c vs->vs[j]? =some x->∃p i a v,c[j]? =some (p,i)/\x= .ref a/\H a=some (.tup [v,.int (i:Int)])/\jP th C H p v
 | [],_,_,_,h,e=>by rw[show _= []from h]at e;cases e
 | (p,i)::c,_,0,_,(a,v,us,b,h1,h2,d),e=>by subst b;cases e;show(p,i,a,v,rfl,rfl,h1,h2.pl)
 | (p,i)::c,_,j+1,_,(a,v,us,b,h1,h2,d),e=>by
  subst b;obtain⟨p',f,a',v',z⟩:=d.at (j:=j) (by simpa using e);show(p',f,a',v',by simpa using z.1,z.2)
theorem yc:zw (hid H d) H:=λb o e=>by
 by_cases z:b=d
 .rw [z,yD]at e;cases e
 .rw [jq z]at e;show e
theorem z0T(h:zw H H'):zw (hid H d) (hid H' d):=λb o e=>by
 by_cases z:b=d
 .rw [z,yD]at e;cases e
 .rw [jq z]at e ⊢;show h b o e
theorem z2r{x:Addr}{o:HO}(n:x≠d):hid (upd H x o) d=upd (hid H d) x o:=by
 funext b
 by_cases z:b=d
 .subst z;rw[yD,zj n.symm,yD]
 .rw [jq z];by_cases y:b=x
  .subst y;rw[zh,zh]
  .rw [zj y,zj y,jq z]
theorem z1o{o:HO}:hid (upd H d o) d=hid H d:=by
 funext b
 by_cases z:b=d
 .subst z;rw[yD,yD]
 .rw [jq z,jq z,zj z]
theorem zel(hd:H d=some (.lst ys)):∀b xs,H b=some (.tup xs)->hid H d b=some (.tup xs):=λb xs e=>by
 rw[jq λz=>by rw[z,hd]at e;cases e];show e
theorem z6o{x:Addr}{fs gs:List (Str×V)}(h:H x=some (.ins D dx fs))(n:∀ah hd wl qv b,fs≠jC ah hd wl qv b):Ev th C H (upd H x (.ins D dx gs)):=by
 show(λb o e v m=>?_,λa aj ah hd wl qv b e=>(b,?_,.inl rfl))
 .rw [zj λz=>by rw[z,h]at e;cases e;show m _ _ _ rfl];show e
 .rw [zj λz=>by rw[z,h]at e;injection e with e;injection e with _ _ e;show n _ _ _ _ _ e];show e
theorem z8i{q:Str}(t:∀b ps,H b=some (.tbl ps)->H' b=some (.tbl ps))(f:∀b o u,H b=some (.frz o u)->H' b=some (.frz o u))(h:jN H T lp q):jN H' T lp q:=by
 rcases h with h|⟨c,h,oc,vs,k,h2,a⟩
 .exact .inl (t _ _ h)
 .exact .inr (c,t _ _ h,oc,vs,k,f _ _ _ h2,a)
theorem Ls.tk(t:∀b ps,H b=some (.tbl ps)->H' b=some (.tbl ps))(f:∀b o u,H b=some (.frz o u)->H' b=some (.frz o u))(h:Ls T1 T2 T3 H):Ls T1 T2 T3 H':=(z8i t f h.a,z8i t f h.b,z8i t f h.c,h.d12,h.d13,h.d23)
theorem Ls.ins{H:Hp}{T1 T2 T3 x D dx:Addr}{fs:List (Str×V)}{o:HO}(h:Ls T1 T2 T3 H)(a:H x=some (.ins D dx fs)):Ls T1 T2 T3 (upd H x o):=
 h.tk (λb ps e=>by rw[zj λz=>by rw[z,a]at e;cases e];show e) λb o u e=>by rw[zj λz=>by rw[z,a]at e;cases e];show e
noncomputable def trF(v:V)(al:Addr):List (Str×V):= [("place",v),("above",.ref al)]
theorem z4M{v:V}:∀ah hd wl qv b,trF v al≠jC ah hd wl qv b:=λu u u u u h=>by
 unfold trF jC at h
 injection h with _ h
 injection h with _ h
 cases h
structure TC(K:W.Frag)(D:Addr):Prop where
 cls:Cls K D
 pl:NoAttr K D "place"
 ab:NoAttr K D "above"
theorem zga{v:V}:yT "place" v []=([("place",v)]:List (Str×V)):=rfl
theorem zgo{v:V}:yT "above" (.ref al) ([("place",v)]:List (Str×V))=trF v al:=by simp[yT,trF,show("place":Str)≠"above" by decide]
theorem zc6{v v':V}:yT "place" v' (trF v al)=trF v' al:=by simp[yT,trF]
def zdv{v:V}:(trF v al).lookup ("place":Str)=some v:=rfl
theorem zdJ{v:V}:(trF v al).lookup ("above":Str)=some (V.ref al):=by rfl
def z6f{t:Addr}{v:V}(b:TC K D)(h:H t=some (.ins D dx (trF v al)))(q:Q v):∃a' a aj fs v',V.ref t= .ref a'/\H a'=some (.ins a aj fs)/\Cls K a/\NoAttr K a "place"/\fs.lookup ("place":Str)=some v'/\Q v':=(t,D,dx,_,_,rfl,h,b.cls,b.pl,zdv,q)
def z9f{t:Addr}{v:V}(b:TC K D)(h:H t=some (.ins D dx (trF v al)))(q:Q (.ref al)):∃a' a aj fs v',V.ref t= .ref a'/\H a'=some (.ins a aj fs)/\Cls K a/\NoAttr K a "above"/\fs.lookup ("above":Str)=some v'/\Q v':=(t,D,dx,_,_,rfl,h,b.cls,b.ab,zdJ,q)
structure TrAt(th:Str->List Str)(C D:Addr)(H:Hp)(t al:Addr)(c:List (Qn×Nat))(q:Qn)(v:V)(dx:Addr)(vs:List V):Prop where
 me:H t=some (.ins D dx (trF v al))
 ab:H al=some (.lst vs.reverse)
 up:z6W th C (hid H al) c vs
 pl:jP th C (hid H al) q v
def zcA{th:Str->List Str}{C:Addr}{H:Hp}:∀{qs:List Qn} {ws:List V},z0c (λr u H=>jP th C H r u) H qs ws->jQ th C H qs ws
 | [],_,h=>h
 | _::_,_,(v,ws,e,h1,h2)=>(v,ws,e,h1,zcA h2)
inductive spPlaceOver (C:Addr) (vs:List V) (H:Hp) (Q:VK) (E:XK):Prop
 | mk:∀th tr q v tp wl ws,vs= [.ref tp,v,.ref wl]->TabOk th tr->FourAt th tr H tp->QAt H q v->wfQ th q->H wl=some (.lst ws)->jQ th C H (kids q) ws->(∀(x:Addr) (H':Hp),zw H H'->jP th C H' q (.ref x)->Q (.ref x) H')->spPlaceOver C vs H Q E
theorem z2K:FnScope ["tables","question","within","heads"] ["tables","question","within"] (zi z0y):=by done
theorem z5l(F:Fun K "place_over" "place_over" z0y f fd)(T:Txt K mg)(X:PC K C)(d:KnC P w K mg base 1 "Place" ["self","ahead","heads","within"] (spPInit K C) C)(c:Kn P w K mg base 3 "heads_at" ["tables","question","within"] (spHeadsAt K)):FnOk P w K mg base CX0 4 f fd ["tables","question","within"] (spPlaceOver C):=by
 clear z2K vs H Q E h F;obtain⟨th,tr,q,v,tp,wl,ws,rfl,TT,U,hq,wf,s,l,fin⟩:=h;obtain⟨p,xs,kv,rfl,hp,I,Y⟩:=z39 hq;have hl:=l.len;have bx:=Y.len;have lk:=z2B q;have la:=z57 I;intro aa A outer sh hr;show(_,(zc (seT 3 z2K (zS c hr.m (za v0 (za v1 (z0w (jB rfl (CompSc.of (sx:=zi z0y) (NX:= ["tables","question","within","heads"]) (fr:= []) (ix:= []) rfl rfl ()) (zT v2) (λr r r r r r=>jh) (λr r r r r r=>(z4v (K:=K) rfl v0 rfl))) zb)))))
  (zf (zp (yr d hr.m rfl (zl (jt ze0 v1 jW (jI (zo z19 (leN T.len (za v1 zb)) (leN T.len (za v2 zb))))) (za v3 (za v2 zb))))))),?_)
 generalize hK0:K=K1;generalize hK1:C=C1
 revert C1
 revert K1
 show z0l #[] ?_;show !(!(!(wl,rfl,(_,SqL.of s),?_)));show jc (xs:=ws) (λi ys H'=>H'=H/\ys.length=i/\z0c (ze1 th) H ((kids q).take i) ys) (rfl,rfl,by rw[w0N];rfl) ?_ ?_ ?_
 .rintro i ys H' hi ⟨rfl,n,_⟩;show(SqL.of s,zG ∅)
 .rintro i y ys H' hi ⟨rfl,n,hr⟩;have t:i<(kids q).length:=by rw[<-hl];show(wg.mp hi).1
  obtain⟨v,G,pv⟩:=l.at (we t);rw[hi]at G;cases G;obtain⟨us,⟨a,dB,D,bU,aj,qv,b,cD,rfl,nd⟩,_⟩:=zZ.mp pv;show !(z15 X nd.me (rfl,by rw[wm,n];rfl,?_));rw[wR,we t];show hr.app (.ref D,[],rfl,(D,rfl,nd.hds),rfl)
 .rintro ys H' ⟨rfl,n,hr⟩ np S;rw[hl,qf]at hr;clear np S H1 n1 x1 np;show(th,tr,q,.ref p,tp,np,ys,rfl,TT,U.same n1,hq.same n1,wf,x1,hr.imp λr u ⟨hp,e,z⟩=>(hp,e,n1 _ _ z),λa7 H2 R M=>?_);have s2:=n1.trans R;have j:=s2 _ _ hp;have o:=s2 _ _ s;show !(!(p,!(.inr (SqT.of j),!(wl,!(.inl (SqL.of o),~~~(!?_))))));have e:HT.sIx (xs++kv).length (xs++kv).length (some (((xs++kv).length:Int)-(ws.length:Int)))=xs.length:=by
   change(if((xs++kv).length:Int)-(ws.length:Int)<0 then _ else min (((xs++kv).length:Int)-(ws.length:Int)).toNat (xs++kv).length)=_
   rw[wm,wW ∅]
   lia
  have L:=l.ev (Ev.of (Nt.of s2));have J:kQ H2 q xs:=I.mono λb xs z=>s2 _ _ z
  by_cases hz:kv= []
  .subst hz;show .inr (p,!(SqT.of j,(rfl,by rw[e,Q3]),?_));rw[Q3]at j;show !(!?_);show jD (q:=q) (xs:=xs) j J M o L λx aj aN H' s' r r pl=>fin x H' (s2.trans s') pl
  .refine .inl (p,!(SqT.of j,λz=>hz ?_,λB O=>?_))
   .have:=z.2;rw[e,wm]at this;show w01.mp ∅
   .have Z:z1W (xs++kv) none (some (((xs++kv).length:Int)-(ws.length:Int)))=xs:=by
     unfold z1W;rw[e]
     change((xs++kv).drop 0).take (xs.length-0)=xs
     rw[w1r,Nat.sub_zero,List.take_left']
     rfl
    rw[Z];clear B O H3 n3 x3 B;have N:=s2.trans n3;show !(!?_);show jD (q:=q) (xs:=xs) x3 (J.mono λb xs z=>n3 _ _ z) (n3 _ _ M) (n3 _ _ o) (L.ev (Ev.of (Nt.of n3))) λx aj aN H' s' r r pl=>fin x H' (N.trans s') pl
noncomputable def zcu:Pos:=match jO z06 with
 | .Assign _ (.Call _ [_,.Lambda _ _ _ p] _ _) _::_=>p
 | _=>(0,0,0,0)
noncomputable abbrev zbT:Str:=Str.ofString "Turner.__init__" ++ ".<locals>." ++ "<lambda>"
inductive spTInit (C D T1 T2 T3 T4:Addr) (vs:List V) (H:Hp) (Q:VK) (E:XK):Prop
 | mk:∀th tr q v x dx tp,vs= [.ref x,.ref tp,v]->H x=some (.ins D dx [])->TabOk th tr->FourAt th tr H tp->QAt H q v->wfQ th q->(post q).length<=8000000->jN H T4 zcu zbT->Ls T1 T2 T3 H->T4≠T1->T4≠T2->T4≠T3->(∀(v':V) (al:Addr) (H':Hp),(∀b o,b≠x->H b=some o->(∀ps,o≠ .tbl ps)->hid H' al b=some o)->Ls T1 T2 T3 H'->TrAt th C D H' x al [] q v' dx []->Q .non H')->spTInit C D T1 T2 T3 T4 vs H Q E
theorem z4X:FnScope ["self","tables","question"] ["self","tables","question"] (zi z06):=by done
theorem z4C{c:Addr}(F:Fun K "__init__" "Turner.__init__" z06 f fd)(T:Txt K mg)(I:TC K D)(hc:fd.code= .ref c)(CH:PySem.W.CodeHd base c T4)(B:base.BuiltinsAt mg T4)(i:KnS P w K mg base CX0 9 "built_up" ["question","work"] (z4x P w K mg base 8))(d:Kn P w K mg base 4 "place_over" ["tables","question","within"] (spPlaceOver C)):FnOk P w K mg base CX0 10 f fd ["self","tables","question"] (spTInit C D T1 T2 T3 T4):=by
 show F.okC z4X (λvs H Q E h=>?_) (λA outer s H vs Q E hr h=>?_)
 .obtain⟨th,tr,q,v,x,dx,tp,rfl,_⟩:=h
  rfl
 obtain⟨th,tr,q,v,x,dx,tp,rfl,hx,TT,h4,hq,wf,hsz,t,l,d1,d2,d3,fin⟩:=h;show(_,(zc (z0I (pv 0) (z2X (k:=4) (T:=T4) (c:=c) (j:=1) (a:="part") (b:="within") (y:="tables") i z2N hr rfl (pv 2) hc CH B (rfl,rfl,rfl,rfl,rfl,rfl,(),(),()) (w0g rfl) rfl
  (λm m m m m m m m hl=>z2h d hl rfl (za (pv 2) (za (pv 0) (za (pv 1) zb))))) rfl) (zf (z0I (pv 0) (zC zb) rfl))),?_)
 show !(t,.ref tp,rfl,λlf c' H2 s2 J df W=>?_);have N:=z9c t J;have L:Ls T1 T2 T3 H2:=(z1y t l.a d1 J,z1y t l.b d2 J,z1y t l.c d3 J,l.d12,l.d13,l.d23);show(v,q,lf,_,Ls T1 T2 T3,λr u H=>jP th C H r u,rfl,hq.nt N,hsz,W.mono (),L,λH1 H2 e z=>z.same e,λr u H1 H2 n z=>z.ev (Ev.of n),λr bR X wl ws H3 Q1 n3 L3 gb Y rs k=>?_,λv' H' n' L' z=>?_)
 .exact(X,.ref wl,rfl,!(!(!(th,tr,r,X,tp,wl,ws,rfl,TT,h4.nt (N.trans n3),gb,z6n wf r bR,Y,zcA rs,λx H4 R Z=>k _ _ (Nt.of R) (L3.same R) Z))))
 .have O:=N.trans n';have M:H' x=some (.ins D dx []):=O _ _ hx λm z=>by cases z
  show !(x,D,dx,!(M,I.cls,I.pl,by change 0<1000;decide,?_));rw[zga];have e3:Ev th C H' (upd H' x (.ins D dx [("place",v')])):=z6o M λm m m m m z=>by cases z
  show((yG rfl),λal p=>?_);have G:al≠x:=λz=>by rw[z,zh]at p;cases p
  have t8:H' al=none:=by rw[zj G]at p;show p
  show !(x,D,dx,!((by rw[zj G.symm,zh]),I.cls,I.ab,by change 1<1000;decide,?_));rw[zgo];show fin v' al _ (λb o U e n=>?_) ?_ (zh,by rw[zj G,zh];rfl,rfl,?_)
  .have S:b≠al:=λz=>by rw[z]at e;have:=O _ _ e n;rw[t8]at this;cases this
   rw[jq S,zj U,zj S,zj U];show O _ _ e n
  .refine Ls.ins (x:=x) (D:=D) (dx:=dx) (fs:= [("place",v')]) ?_ (by rw[zj G.symm,zh]);show(L'.ins M).same (zz p _)
  .rw [z2r G.symm,yK p];show(z.ev e3).ev (z6o zh λm m m m m z=>by cases z)
theorem z9r{n:Nat}(h:i<n):ixN n (i:Int)=some i:=by
 unfold ixN;rw[qd ∅,qd ∅]
 rfl
inductive spGoW (C D:Addr) (vs:List V) (H:Hp) (Q:VK) (E:XK):Prop
 | mk:∀t dx al a bV ah hd wl us ws qv w b (i:Nat),vs= [.ref t,.int (i:Int)]->H t=some (.ins D dx (trF (.ref a) al))->H al=some (.lst us)->us.length<sizeLine->H a=some (.ins C bV (jC ah hd wl qv b))->H wl=some (.lst ws)->wl≠al->ws[i]? =some w->(∀p,H p=none->Q .non (upd (upd (upd H p (.tup [.ref a,.int (i:Int)])) al (.lst (us++[.ref p]))) t (.ins D dx (trF w al))))->spGoW C D vs H Q E
theorem z2G:FnScope ["self","spot"] ["self","spot"] (zi k8):=by done
theorem z2E(F:Fun K "go_within" "Turner.go_within" k8 f fd)(T:Txt K mg)(q:PC K C)(c:TC K D):FnOk P w K mg base CX0 1 f fd ["self","spot"] (spGoW C D):=by
 clear z2G vs H Q E h F;obtain⟨t,dx,al,a,bV,ah,hd,wl,us,ws,qv,x,b,i,rfl,ht,d,u,ha,j,r,hi,fin⟩:=h;intro aa A outer y hr;show(_,(zc (j7 (apP (zA v0 rfl) (zQ (zD (zP (zA v0 rfl) (za v1 zb))) zb)))
  (zf (z0I v0 (ixL (zA (zA v0 rfl) rfl) v1) rfl))),?_)
 generalize hK0:K=K1;generalize hK1:C=C1;generalize hK2:D=D1
 revert D1
 revert C1
 revert K1
 show z6l #[] ?_;show !(z9f c ht (.inl (rfl,_,SqL.of d),?_));show !(z6f c ht (!((yG rfl),λp hp=>?_)));have ne:∀{b:Addr} {o:HO},H b=some o->b≠p:=λ{b o} e z=>by rw[z,hp]at e;cases e
 have s:t≠al:=λz=>by rw[z,d]at ht;cases ht
 have n:a≠al:=λz=>by rw[z,d]at ha;cases ha
 show(al,~~~((by rw[zj (ne d)];show d),u,?_));have l:upd (upd H p (.tup [.ref a,.int (i:Int)])) al (.lst (us++[.ref p])) t=some (.ins D dx (trF (.ref a) al)):=by rw[zj s,zj (ne ht)];show ht
 show !(z6f c l (km q (by rw[zj n,zj (ne ha)];show ha) (!(zv (by rw[zj r,zj (ne j)];show j) (zR hi) ?_))));show !(t,D,dx,!(l,c.cls,c.pl,by change 2<1000;decide,?_));rw[zc6];show fin p hp
theorem zbA{p k:Qn}(h:kQ H p xs):kQ H (zN p i k) xs:=by
 cases p with
 | pair q r=>change kQ H (if i=0 then _ else _) xs;split<;>show h
 | join a b q r=>change kQ H (if i=0 then _ else _) xs;split<;>show h
 | both q r=>change kQ H (if i=0 then _ else _) xs;split<;>show h
 | _=>show h
theorem z7O{hd:Addr}(ha:H ah=some (.tup xs))(w:kQ H q xs)(j:H hd=some (.lst ((ze th q).map V.str)))(A:H wl=some (.lst ws))(hp:jQ th C H (kids q) ws)
  (fin:∀(x dx:Addr) (qv:V) (H':Hp),zw H H'->H x=none->NodeAt th C H' q x ws ah hd wl dx qv false xs->R x .non H'):
  ∀x dx,H x=none->H dx=none->dx≠x->spPInit K C (.ref x::([.ref ah,.ref hd,.ref wl]++[])) (upd (upd H dx (.own x)) x (.ins C dx [])) (R x) E:=by
 intro x dx c b p;obtain⟨t,q',D,aj,i,n,bU,l,o,e,h1,h2,a,u,h,r⟩:=jD (K:=K) (E:=E) (Q:=λv H'=>∀z,v= .ref z->R z .non H') ha w j A hp (λz aj aN H' s' hz nd m y f=>by cases f;show fin z aj aN H' s' hz nd) x dx c b p;show(t,q',D,aj,i,n,bU,l,o,e,h1,h2,a,u,h,λqv H' d s B=>(r qv H' d s B).2 x rfl)
def NodeAt.keep{a hd:Addr}(h:NodeAt th C H q a ws ah hd wl dx qv b xs)(k:∀c,c=a\/c=hd\/c=wl->H' c=H c)(t:∀b xs,H b=some (.tup xs)->H' b=some (.tup xs)):NodeAt th C H' q a ws ah hd wl dx qv b xs:=
 ((k _ (.inl rfl)).trans h.me,t _ _ h.ahd,h.ahx.mono t,(k _ (.inr (.inl rfl))).trans h.hds,(k _ (.inr (.inr rfl))).trans h.wit,h.qst.mono t,h.set)
inductive spGoB (C D:Addr) (vs:List V) (H:Hp) (Q:VK) (E:XK):Prop
 | mk:∀th q t dx al p a bV ah hd wl us (ws:List V) xs qv v b (i:Nat),vs= [.ref t]->H t=some (.ins D dx (trF v al))->H al=some (.lst (us++[.ref p]))->H p=some (.tup [.ref a,.int (i:Int)])->H a=some (.ins C bV (jC ah hd wl qv b))->i<ws.length->wl≠al->hd≠al->H wl=some (.lst ws)->H ah=some (.tup xs)->kQ H q xs->H hd=some (.lst ((ze th q).map V.str))->jQ th C (hid H al) (kids q) (ws.set i v)->(∀(x:Addr) (H':Hp),(∀b o,b≠t->b≠al->H b=some o->H' b=some o)->H x=none->H' t=some (.ins D dx (trF (.ref x) al))->H' al=some (.lst us)->(∃bU aj aN,NodeAt th C (hid H' al) q x (ws.set i v) ah hd bU aj aN false xs)->Q .non H')->spGoB C D vs H Q E
theorem kK:FnScope ["self","over","within"] ["self"] (zi kZ):=by done
theorem z34(F:Fun K "go_back" "Turner.go_back" kZ f fd)(T:Txt K mg)(N:PC K C)(G:TC K D)(r:KnC P w K mg base 1 "Place" ["self","ahead","heads","within"] (spPInit K C) C):FnOk P w K mg base CX0 3 f fd ["self"] (spGoB C D):=by
 clear kK vs H Q E h F;obtain⟨th,q,t,dx,al,p,a,bV,ah,hd,wl,us,ws,xs,qv,v,b,i,rfl,ht,s,hp,ha,hi,t9,vO,ar,O,cr,L,cq,fin⟩:=h;have u:t≠al:=λz=>by rw[z,s]at ht;cases ht
 have I:p≠al:=λz=>by rw[z,s]at hp;cases hp
 have M:a≠al:=λz=>by rw[z,s]at ha;cases ha
 have Fz:ah≠al:=λz=>by rw[z,s]at O;cases O
 intro aa A outer sh hr;show(_,(zc (seT 1 kK (z26 wO Qz QA z2b (zA v0 rfl)))
  (zc (seT 2 kK (jj yJ rfl T.list qE (zP (zA (ixT v1 zd) rfl) zb)))
  (zc (z6x (zA v0 rfl) (z8G v2 (ixT v1 zd) set_list))
  (zf (z0I v0 (yr r hr.m rfl (zP (zA (ixT v1 zd) rfl) (zP (zA (ixT v1 zd) rfl) (za v2 zb)))) rfl))))),?_)
 generalize hK0:K=K1;generalize hK1:C=C1;generalize hK2:D=D1
 revert D1
 revert C1
 revert K1
 show z6l #[] ?_;show !(z9f G ht (.inl (rfl,_,SqL.of s),al,_,.ref p,rfl,rfl,s,z16 _ _,?_));rw[QI];have d:∀{b:Addr} {o:HO},b≠al->H b=some o->upd H al (.lst us) b=some o:=λ{b o} n e=>by rw[zj n];show e
 have J:upd H al (.lst us) al=some (.lst us):=zh;have U:hid (upd H al (.lst us)) al=hid H al:=z1o;generalize upd H al (.lst us)=H1 at d J U ⊢;show !(zg (d I hp) zH (km N (d M ha) (wl,!(.inl (SqL.of (d t9 ar)),λl cG=>?_))));clear l cG H2 n2 x2 l;show !(z6f G (n2 _ _ (d u ht)) (!(!(zg (n2 _ _ (d I hp)) j8 (l,_,_,i,rfl,rfl,x2,?_,?_)))))
 .exact z9r hi
 have B:H1 l=none:=cG;have n3:∀b o,H1 b=some o->upd H2 l (.lst (ws.set i v)) b=some o:=λb o e=>by rw[zj λz=>by rw[z,B]at e;cases e];show n2 _ _ e
 have x3:upd H2 l (.lst (ws.set i v)) l=some (.lst (ws.set i v)):=zh;generalize upd H2 l (.lst (ws.set i v))=H3 at n3 x3 ⊢;have j:zw H1 H3:=n3;have Bl:zw (hid H al) (hid H3 al):=by rw[<-U];show z0T j
 show !(zg (j _ _ (d I hp)) zH (yL N (j _ _ (d M ha)) ?_));show !(zg (j _ _ (d I hp)) zH (z15 N (j _ _ (d M ha)) (!?_)));have Z:∀b xs,H b=some (.tup xs)->H3 b=some (.tup xs):=λb xs e=>j _ _ (d (λz=>by rw[z,s]at e;cases e) e)
 have fx:∀{b:Addr},H3 b=none->H b=none\/b=al:=λ{b} e=>by
  by_cases z:b=al
  .exact .inr z
  .refine .inl ?_;cases e2:H b with
   | none=>rfl
   | some o=>have:=j _ _ (d z e2);rw[e]at this;cases this
 show z7O (th:=th) (q:=q) (xs:=xs) (Z _ _ O) (cr.mono Z) (j _ _ (d vO L)) x3 ((cq.ev (Ev.of (Nt.of Bl))).ev (Ev.of (Nt.of yc))) λx aj aN H4 R y nd=>(rfl,?_)
 have oJ:=j _ _ J;have S:x≠al:=λz=>by rw[z,oJ]at y;cases y
 have Y:=j _ _ (d u ht);have Bm:x≠t:=λz=>by rw[z,Y]at y;cases y
 have oK:=R _ _ oJ;have X:=R _ _ Y;have Bn:l≠al:=λz=>by rw[z,J]at B;cases B
 have Bo:l≠t:=λz=>by rw[z,d u ht]at B;cases B
 have Bp:hd≠t:=λz=>by rw[z,ht]at L;cases L
 show !(t,D,dx,!(X,G.cls,G.pl,by change 2<1000;decide,?_));rw[zc6];show fin x _ (λb o h1 h2 e=>?_) ?_ zh (by rw[zj u.symm];show oK) (l,aj,aN,?_)
 .rw [zj h1];show R _ _ (j _ _ (d h2 e))
 .rcases fx y with z|z
  .exact z
  .exact absurd z S
 .rw [z2r u];show nd.keep (λc hc=>?_) λb ys e=>?_
  .rcases hc with rfl|rfl|rfl
   .rw [zj Bm,jq S]
   .rw [zj Bp,jq vO]
   .rw [zj Bo,jq Bn]
  .rw [zj (λz=>by rw[z,X]at e;cases e),jq (λz=>by rw[z,oK]at e;cases e)];show e
structure Step(th:Str->List Str)(C:Addr)(H H':Hp)(al:Addr):Prop where
 ev:Ev th C (hid H al) (hid H' al)
 tb:∀b ps,H b=some (.tbl ps)->H' b=some (.tbl ps)
def Step.refl:Step th C H H al:=(Ev.refl _,λv v e=>e)
theorem Step.trans(a:Step th C H H1 al)(b:Step th C H1 H2 al):Step th C H H2 al:=(a.ev.trans b.ev,λx ps e=>b.tb x ps (a.tb x ps e))
theorem Step.same(a:zw H H1):Step th C H H1 al:=(Ev.of (Nt.of (z0T a)),λv v e=>a _ _ e)
theorem Step.ls(a:Step th C H H1 al)(h:Ls T1 T2 T3 H)(ha:H al=some (.lst us)):Ls T1 T2 T3 H1:=
 h.tk a.tb λb o u e=>yc _ _ (a.ev.t b _ (by rw[jq λz=>by rw[z,ha]at e;cases e];show e) (λv z=>by cases z) λv v v z=>by cases z)
theorem TrAt.same{t:Addr}{c:List (Qn×Nat)}{v:V}(h:TrAt th C D H t al c q v dx vs)(s:zw H H1):TrAt th C D H1 t al c q v dx vs:=
 (s _ _ h.me,s _ _ h.ab,h.up.ev (Ev.of (Nt.of (z0T s))),h.pl.ev (Ev.of (Nt.of (z0T s))))
theorem TrAt.ne{t:Addr}{c:List (Qn×Nat)}{v:V}(h:TrAt th C D H t al c q v dx vs):t≠al:=λz=>by
 have:=h.me;rw[z,h.ab]at this;cases this
theorem take_set{ws:List α}{v u:α}(m:u∈(ws.set i v).take (i+1)):u=v\/u∈ws.take i:=by
 rw[wR]at m;rcases wE.mp m with m|m
 .rw [List.take_set_of_le (wA i)]at m;show .inr m
 .by_cases h:i<ws.length
  .rw [w17 h]at m;show .inl (by simpa using m)
  .rw [w1i (by rw[List.length_set];lia)]at m;cases m
theorem z51{b:Addr}{o:HO}(h:hid H al b=some o):b≠al:=λz=>by rw[z,yD]at h;cases h
theorem zdq{t:Addr}{v:V}(h:H t=some (.ins D dx (trF v al)))(k:∀b o,b≠t->b≠al->H b=some o->H' b=some o)(ha:H al=some (.lst us)):Step th C H H' al:=by
 have kk:∀b o,b≠t->hid H al b=some o->hid H' al b=some o:=λb o n e=>by
  have nb:=z51 e;rw[jq nb];show k b o n nb (yc _ _ e)
 show((λb o e u m=>kk b o (λz=>?_) e,λa aj ah hd wl qv b e=>(b,kk a _ (λz=>?_) e,.inl rfl)),λb ps e=>k b _ (λz=>?_) (λz=>?_) e)
 .have:=yc _ _ e;rw[z,h]at this;cases this;show m _ _ _ rfl
 .have:=yc _ _ e;rw[z,h]at this
  injection this with this
  injection this with _ _ this
  show z4M _ _ _ _ _ this
 .rw [z,h]at e;cases e
 .rw [z,ha]at e;cases e
theorem z9K{th:Str->List Str}{C:Addr}{H:Hp}:∀{qs:List Qn} {ws:List V},jQ th C H qs ws->(∀u∈ws,SetV C H u)->∀k∈qs,nf th k
 | [],_,_,_,_,m=>by cases m
 | q::qs,_,(v,ws,e,h1,h2),hs,k,m=>by
  subst e;rcases wL.mp m with rfl|m
  .exact(hs v (qy ..)).nf h1
  .exact z9K h2 (λu m=>hs u (wZ _ m)) k m
inductive UnV (C:Addr) (H:Hp) (u:V):Prop
 | mk:∀a dx ah hd wl qv,u= .ref a->H a=some (.ins C dx (jC ah hd wl qv false))->UnV C H u
theorem UnV.not(h:UnV C H u):¬SetV C H u:=by
 rintro⟨a,dx,ah,hd,wl,qv,rfl,e⟩;obtain⟨a',aj,d,c,bU,aN,z,b⟩:=h;cases z;rw[e]at b;unfold jC at b;simp at b
inductive spTurn (C D:Addr) (vs:List V) (H:Hp) (Q:VK) (E:XK):Prop
 | mk:∀th tr t al dx c q v us,vs= [.ref t]->TabOk th tr->TrAt th C D H t al c q v dx us->z0s th c q->wfQ th (plug c q)->wt (plug c q)<=8000000->(∀(r:Bool) (H':Hp) (c':List (Qn×Nat)) (q':Qn) (v':V) (Bq:List V),Step th C H H' al->TrAt th C D H' t al c' q' v' dx Bq->z0s th c' q'->((r=true/\One th (plug c q) (plug c' q'))\/(r=false/\plug c' q'=plug c q/\nf th (plug c' q')))->Q (.bl r) H')->spTurn C D vs H Q E
structure TrIn(th:Str->List Str)(C D:Addr)(H H1:Hp)(w:Qn)(t al dx:Addr)(c:List (Qn×Nat))(q:Qn)(us ws xs:List V)(a ah hd wl bV:Addr)(qv:V)(b:Bool)(j:Nat):Prop where
 tr:TrAt th C D H1 t al c q (.ref a) dx us
 ok:z0s th c q
 same:plug c q=w
 step:Step th C H H1 al
 nd:NodeAt th C (hid H1 al) q a ws ah hd wl bV qv b xs
 kd:jQ th C (hid H1 al) (kids q) ws
 st:∀u∈ws.take j,SetV C (hid H1 al) u
inductive TurnI (th:Str->List Str) (C D:Addr) (H:Hp) (w:Qn) (t al dx:Addr) (m:Nat) (σ:St) (H1:Hp):Prop
 | mk:∀c1 q1 dC ws xs a ah hd wl bV qv b j o1 o2 o3,σ= [some (.ref t),o1,o2,o3]->TrIn th C D H H1 w t al dx c1 q1 dC ws xs a ah hd wl bV qv b j->m=(if b=true then 1 else 2+rest q1 j)+budget c1->TurnI th C D H w t al dx m σ H1
theorem kB:FnScope ["self","place","unsettled","other"] ["self"] (zi yS):=by done
theorem z4L(F:Fun K "turn" "Turner.turn" yS f fd)(T:Txt K mg)(M:TxtM K mg)(PK:PC K C)(TK:TC K D)(s:KnM P w K mg base 3 "go_back" ["self"] (spGoB C D) D)(n:KnM P w K mg base 1 "go_within" ["self","spot"] (spGoW C D) D)(J:Kn P w K mg base 9 "turned" ["place"] (spTurned C)):FnOk P w K mg base CX0 10 f fd ["self"] (spTurn C D):=by
 clear kB vs H Q E h F;obtain⟨th,tr,t,al,dx,c,q,v,us,rfl,TT,fi,mK,Br,Bs,fin⟩:=h;intro aa A outer sh hr;show(_,(zc (z4f (z1u (z29 (zA v0 rfl) (λg=>rfl)) (jJ (zX (zA (zA v0 rfl) rfl))))
   (zc (seT 1 kB (zA v0 rfl))
   (zc (z7Q (j:=2) rfl kB.nd rfl (w0g rfl) (CompScG.of (sx:=zi yS) (NX:= ["self","place","unsettled","other"]) (xs:= ["spot","inner"]) (fr:= []) (ix:= []) rfl rfl ()) (zdi rfl M.enumerate (zP (zA v1 rfl) zb)) (zfD rfl (CompScG.of (sx:=zi yS) (NX:= ["self","place","unsettled","other"]) (xs:= ["spot","inner"]) (fr:= []) (ix:= []) rfl rfl ()) (by rfl) (by rfl)) (λg g g g g g=>(z2o (jJ (zX (z4v (K:=K) rfl v1 rfl))))) (λg g g g g g=>v0))
   (zf (zB (zX (zA v1 rfl))
    (zf (j7 (zaT s hr.m v0)))
    (zf (zB (z29 v2 (λg=>rfl))
     (zf (j7 (zbL n hr.m v0 (zl (ixL v2 zd) zb))))
     (zc (seT 3 kB (zbz J hr.m rfl (za v1 zb)))
     (zc (zB (cmT z3h v3 kC)
      (zc (z0I v0 v3 rfl)
      (zf (zp jv)))
      zt)
     (zf (z0I v1 jv rfl)))))))))))
  (zf (zp jv))),?_)
 generalize hK0:K=K1;generalize hK1:C=C1;generalize hK2:D=D1
 revert D1
 revert C1
 revert K1
 show z6l #[] ?_;obtain⟨vQ,⟨a0,vR,vS,vT,vU,tq,b0,vV,rfl,oM⟩,vW⟩:=zZ.mp fi.pl;show yV (TurnI th C D H (plug c q) t al dx)
  _ (c,q,us,vQ,vV,a0,vR,vS,vT,vU,tq,b0,0,none,none,none,rfl,(fi,mK,rfl,.refl,oM,vW,λu m=>by rw[w0N]at m;cases m),rfl) ?_
 rintro m σ H1 ⟨c1,q1,dC,ws,xs,a,ah,hd,wl,bV,qv,b,j,o1,o2,o3,rfl,R,rfl⟩;have me:=yc _ _ R.nd.me;show !(z9f TK R.tr.me (_,.inl (_,SqL.of R.tr.ab,rfl),?_));show(not b,(!(z6f TK R.tr.me (zbR PK me (!(rfl,rfl))))),?_);by_cases hx:dC= []/\b=true
 .obtain⟨rfl,rfl⟩:=hx;show ifF (by rfl) ?_;have ec:c1= []:=w01.mp (by rw[<-R.tr.up.len];rfl);subst ec;show fin false H1 [] q1 _ _ R.step R.tr R.ok (.inr (rfl,R.same,R.nd.set rfl))
 show ifT ?_ ?_
 .cases b with
  | false=>simp
  | true=>
   cases dC with
   | nil=>show absurd (rfl,rfl) hx
   | cons x r=>simp
 show z7B λZ hN hR=>?_
 show !(z6f TK R.tr.me ?_);have wit:=yc _ _ R.nd.wit;have sY:=R.kd.len;have lk:=z2B q1;show !(km PK me (wl,rfl,(_,SqL.of wit),?_));show zaA (ys:=ws) (λi zs H'=>zw H1 H'/\zs.length<=i/\((zs= []/\∀u∈ws.take i,SetV C (hid H1 al) u)\/∃(k:Nat) (w:V) (r:List V),zs= .int (k:Int)::r/\ws[k]? =some w/\UnV C (hid H1 al) w/\∀u∈ws.take k,SetV C (hid H1 al) u))
  (zw.refl _,wA _,.inl (rfl,λu m=>by rw[w0N]at m;cases m)) ?_ ?_ ?_
 .rintro i zs H' hi ⟨s',hz,_⟩;show(SqL.of (s' _ _ wit),zG ∅)
 .rintro i y zs H' p hi ⟨s',hz,o⟩ hp;have s2:=s'.trans (zz hp (.tup [.int (i:Int),y]));have cH:i<(kids q1).length:=by rw[<-sY];show(wg.mp hi).1
  obtain⟨v,hv,pv⟩:=R.kd.at (we cH);rw[hi]at hv;cases hv;obtain⟨eQ,⟨a2,U,O,dy,Y,bY,b2,cV,rfl,G⟩,_⟩:=zZ.mp pv;show !(zbR PK (s2 _ _ (yc _ _ G.me)) (!?_));cases b2 with
  | false=>
   show ifT rfl (!(s2,by rw[wm];simp;lia,?_));rcases o with⟨rfl,all⟩|⟨k,w,r,rfl,h1,h2,h3⟩
   .exact .inr (i,_,[],rfl,hi,(a2,Y,U,O,dy,bY,rfl,G.me),all)
   .exact .inr (k,w,r++[.int (i:Int)],rfl,h1,h2,h3)
  | true=>
   show ifF rfl (s2,∅,?_);rcases o with⟨rfl,all⟩|⟨k,w,r,rfl,h1,h2,h3⟩
   .refine .inl (rfl,λu m=>?_);rw[wR,hi]at m;rcases wE.mp m with m|m
    .exact all u m
    .rw [show u= .ref a2 by simpa using m];show(a2,Y,U,O,dy,bY,rfl,G.me)
   .exact .inr (k,w,r,rfl,h1,h2,h3)
 .rintro zs H' ⟨s',hz,o⟩ np ag;clear np ag H3 n3 x3 np;have s3:=s'.trans n3;have l:=R.tr.same s3;have oN:=s3 _ _ me;have L:Step th C H1 H3 al:=Step.same s3;show !(zbR PK oN (!?_));cases b with
  | true=>
   show ifT rfl ?_;obtain⟨p,i,c2,rfl⟩:∃p i c2,c1=(p,i)::c2:=by
    cases c1 with
    | nil=>show absurd (w01.mp R.tr.up.len,rfl) hx
    | cons x c2=>show(x.1,x.2,c2,rfl)
   obtain⟨pa,pv,eQ,rfl,ff,⟨tz,⟨a2,U,O,dy,Y,bY,b2,cV,rfl,G⟩,mV,b9⟩,Bt⟩:=l.up;have X:=l.ab;rw[w05]at X;have lp:=mV.len;show !(t,dx,!(l.me,rfl,th,zN p i q1,t,dx,al,pa,a2,Y,U,O,dy,eQ.reverse,tz,cV,bY,.ref a,b2,i,rfl,l.me,X,yc _ _ ff,yc _ _ G.me,(by rw[lp];show R.ok.1),z51 G.wit,z51 G.hds,yc _ _ G.wit,yc _ _ G.ahd,zbA (G.ahx.mono λb xs z=>yc _ _ z),(by rw[R.ok.2.1];show yc _ _ G.hds),(by rw[z2m R.ok.1];show mV.set l.pl),?_));rintro x H4 k4 fx t4 oK ⟨bU,aj,aN,ou⟩;have fZ:Step th C H3 H4 al:=zdq l.me k4 X;have vX:jQ th C (hid H4 al) (kids (zN p i q1)) (tz.set i (.ref a)):=by
    rw[z2m R.ok.1];show(mV.set l.pl).ev fZ.ev
   show hN _ _ ((2+rest (zN p i q1) (i+1))+budget c2,?_,c2,zN p i q1,eQ,tz.set i (.ref a),cV,x,U,O,bU,aj,aN,false,i+1,_,_,_,rfl,((t4,oK,Bt.ev fZ.ev,zZ.mpr (_,(x,U,O,bU,aj,aN,false,cV,rfl,ou),vX)),R.ok.2.2,R.same,R.step.trans (L.trans fZ),ou,vX,λu m=>?_),by simp)
   .rw [zbN R.ok.1]
    change _<1+(2+rest p (i+1)+budget c2)
    lia
   .rcases take_set m with rfl|m
    .exact SetV.ev (th:=th) (L.trans fZ).ev (a,bV,ah,hd,wl,qv,rfl,R.nd.me)
    .exact(b9 u m).ev fZ.ev
  | false=>
   show ifF rfl ?_;show !(_,.inl (_,SqL.of x3,rfl),?_);rcases o with⟨rfl,all⟩|⟨k,w,r,rfl,hk,un,st⟩
   .refine ifF (by rfl) ?_;rw[qf]at all;have hn:=z9K R.kd all;have vY:wfQ th (plug c1 q1):=by rw[R.same];show Br
    have X:=l.ab;show !(al,_,X,th,q1,_,rfl,z2s R.ok vY,l.pl,λq' e z H5 S ac h5=>?_,λe H5 S h5=>?_)
    .have m5:H5 t=some (.ins D dx (trF (.ref a) al)):=S t _ (by rw[jq l.ne];show l.me);show !(rfl,!?_);show ifT (by rfl) ?_;show !(!(t,D,dx,!((by rw[zj l.ne];show m5),TK.cls,TK.pl,by change 2<1000;decide,?_)));rw[zc6];have B:hid (upd (upd H5 al (.lst dC.reverse)) t (.ins D dx (trF (.ref z) al))) al=upd H5 t (.ins D dx (trF (.ref z) al)):=by rw[z2r l.ne,yK h5]
     have v5:Ev th C (hid H3 al) H5:=Ev.of (Nt.of S);have I:Ev th C H5 (upd H5 t (.ins D dx (trF (.ref z) al))):=z6o m5 z4M;have E3:=z5G (z4S TT (z2s R.ok vY) e).h R.ok;rw[<-R.same]at fin;show hR _ _ (fin true _ c1 q' (.ref z) dC (R.step.trans (L.trans (by rw[B];show v5.trans I,λb ps e=>?_))) (zh,by rw[zj l.ne.symm,zh],by rw[B];show(l.up.ev v5).ev I,by rw[B];show ac.ev I) E3 (.inl (rfl,c1,q1,q',R.ok,rfl,rfl,e,hn)));have n1:b≠t:=λz=>by rw[z,l.me]at e;cases e
     have n2:b≠al:=λz=>by rw[z,X]at e;cases e
     rw[zj n1,zj n2];show S _ _ (by rw[jq n2];show e)
    .refine !(rfl,!?_);show ifF (by rfl) ?_;have tD:=R.nd.ev (L.ev.trans (Ev.of (Nt.of S))) (S _ _ (z0T s3 _ _ R.nd.me)) (.inl rfl);have fM:a≠al:=z51 R.nd.me;show !(a,C,bV,!((by rw[zj fM];show tD.me),PK.cls,PK.se,by change 5<1000;decide,?_));rw[zgP];have B:hid (upd (upd H5 al (.lst dC.reverse)) a (.ins C bV (jC ah hd wl qv true))) al=upd H5 a (.ins C bV (jC ah hd wl qv true)):=by rw[z2r fM,yK h5]
     have nq:=zgv e hn;have v5:Ev th C (hid H3 al) H5:=Ev.of (Nt.of S);have I:Ev th C H5 (upd H5 a (.ins C bV (jC ah hd wl qv true))):=zb8 tD nq;have i3:t≠a:=λz=>by
      have:=l.me;rw[z,oN]at this
      injection this with this
      injection this with _ _ this
      show z4M _ _ _ _ _ this.symm
     have m5:H5 t=some (.ins D dx (trF (.ref a) al)):=S t _ (by rw[jq l.ne];show l.me);show hN _ _ (1+budget c1,?_,c1,q1,dC,ws,xs,a,ah,hd,wl,bV,qv,true,j,_,_,_,rfl,((by rw[zj i3,zj l.ne];show m5,by rw[zj fM.symm,zh],by rw[B];show(l.up.ev v5).ev I,by rw[B];show(l.pl.ev v5).ev I),R.ok,R.same,R.step.trans (L.trans (by rw[B];show v5.trans I,λb ps e=>?_)),by rw[B];show tD.ev I zh (.inr nq),by rw[B];show R.kd.ev (L.ev.trans (v5.trans I)),λu m=>by rw[B];show(R.st u m).ev (L.ev.trans (v5.trans I))),by simp)
     .show 1+budget c1<2+rest q1 j+budget c1
      lia
     .have n1:b≠a:=λz=>by rw[z,oN]at e;cases e
      have n2:b≠al:=λz=>by rw[z,X]at e;cases e
      rw[zj n1,zj n2];show S _ _ (by rw[jq n2];show e)
   .refine ifT (by rfl) ?_;obtain⟨sD,_⟩:=wg.mp hk;have cH:k<(kids q1).length:=by rw[<-sY];show sD
    obtain⟨w',vZ,pw⟩:=R.kd.at (we cH);rw[hk]at vZ;cases vZ;obtain⟨Bu,⟨a2,U,O,dy,Y,bY,b2,cV,rfl,G⟩,mV⟩:=zZ.mp pw;have eb:b2=false:=by
     cases b2 with
     | false=>rfl
     | true=>show absurd (a2,Y,U,O,dy,bY,rfl,G.me) un.not
    subst eb;have Bv:j<=k:=by
     rcases Nat.lt_or_ge k j with z|z
     .exact absurd (R.st _ (qN (i:=k) (by rw[List.getElem?_take_of_lt z];show hk))) un.not
     .exact z
    have lc:dC.length<sizeLine:=by
     have h1:=z5J R.ok;have h2:=z6w (plug c1 q1);have h3:=R.tr.up.len;have h4:wt (plug c1 q1)<=8000000:=by rw[R.same];show Bs
     show z3y ∅
    show !(t,dx,!(l.me,rfl,!(zv x3 zH (t,dx,al,a,bV,ah,hd,wl,dC.reverse,ws,qv,.ref a2,false,k,rfl,l.me,l.ab,(by rw[w0A];show lc),oN,s3 _ _ wit,z51 R.nd.wit,hk,λp hp=>?_))));have np1:p≠al:=λz=>by rw[z,l.ab]at hp;cases hp
    have np2:p≠t:=λz=>by rw[z,l.me]at hp;cases hp
    have hh:hid H3 al p=none:=z25 hp;have B:hid (upd (upd (upd H3 p (.tup [.ref a,.int (k:Int)])) al (.lst (dC.reverse++[.ref p]))) t (.ins D dx (trF (.ref a2) al))) al=upd (upd (hid H3 al) p (.tup [.ref a,.int (k:Int)])) t (.ins D dx (trF (.ref a2) al)):=by rw[z2r l.ne,z1o,z2r np1]
    have v5:Ev th C (hid H3 al) (upd (hid H3 al) p (.tup [.ref a,.int (k:Int)])):=Ev.of (Nt.of (zz hh _));have mt:upd (hid H3 al) p (.tup [.ref a,.int (k:Int)]) t=some (.ins D dx (trF (.ref a) al)):=by rw[zj np2.symm,jq l.ne];show l.me
    have I:=v5.trans (z6o (th:=th) (C:=C) (gs:=trF (.ref a2) al) mt z4M);have v7:=L.ev.trans I;have keep:∀{a' aj dB bn bU:Addr} {aN:V} {b':Bool},hid H1 al a'=some (.ins C aj (jC dB bn bU aN b'))->upd (upd (hid H3 al) p (.tup [.ref a,.int (k:Int)])) t (.ins D dx (trF (.ref a2) al)) a'=some (.ins C aj (jC dB bn bU aN b')):=λ{a' aj dB bn bU aN b'} e=>by
     have N:=z0T (d:=al) s3 _ _ e;rw[zj λz=>by rw[z,jq l.ne,l.me]at N;injection N with N;injection N with _ _ N;show z4M _ _ _ _ _ N,zj λz=>by rw[z,hh]at N;cases N];show N
    have kq:(kids q1)[k]? =some (kids q1)[k]:=we cH;show hN _ _ ((2+rest (kids q1)[k] 0)+budget ((q1,k)::c1),?_,(q1,k)::c1,(kids q1)[k],.ref p::dC,Bu,cV,a2,U,O,dy,Y,bY,false,0,_,_,_,rfl,((zh,by rw[zj l.ne.symm,zh,w05],?_,by rw[B];show pw.ev v7),zcd kq R.ok,(zaI kq).trans R.same,R.step.trans (L.trans (by rw[B];show I,λb ps e=>?_)),?_,by rw[B];show mV.ev v7,λu m=>by rw[w0N]at m;cases m),by simp)
    .have r1:=z9w kq;have r2:=zdG (p:=q1) Bv;have r3:=zcW (kids q1)[k]
     change 2+rest (kids q1)[k] 0+(2+rest q1 (k+1)+budget c1)<2+rest q1 j+budget c1
     lia
    .rw [B];show(p,.ref a,dC,rfl,?_,(ws,(a,ah,hd,wl,bV,qv,false,xs,rfl,?_),R.kd.ev v7,λu m=>(st u m).ev v7),l.up.ev I)
     .rw [zj np2,zh]
     .exact R.nd.ev v7 (keep R.nd.me) (.inl rfl)
    .have n1:b≠t:=λz=>by rw[z,l.me]at e;cases e
     have n2:b≠al:=λz=>by rw[z,l.ab]at e;cases e
     have n3:b≠p:=λz=>by rw[z,hp]at e;cases e
     rw[zj n1,zj n2,zj n3];show e
    .rw [B];show G.ev v7 (keep G.me) (.inl rfl)
inductive spTWhole (C D:Addr) (vs:List V) (H:Hp) (Q:VK) (E:XK):Prop
 | mk:∀th t al dx c q v us,vs= [.ref t]->TrAt th C D H t al c q v dx us->z0s th c q->(∀(v':V) (H':Hp),zw H H'->QAt H' (plug c q) v'->Q v' H')->spTWhole C D vs H Q E
theorem zc1{th:Str->List Str}:∀{c:List (Qn×Nat)} {q p:Qn} {j i:Nat},z0s th c q->c[j]? =some (p,i)->i<(kids p).length
 | [],_,_,_,_,_,e=>by cases e
 | (p,i)::c,_,_,0,_,h,e=>by cases e;show h.1
 | (p,i)::c,_,_,j+1,_,h,e=>zc1 (j:=j) h.2.2 (by simpa using e)
theorem yt.set:∀{qs:List Qn} {vs:List V} {i:Nat} {q:Qn} {v:V},yt H qs vs->QAt H q v->yt H (qs.set i q) (vs.set i v)
 | [],_,_,_,_,h,_=>by rw[show _= []from h];rfl
 | r::qs,_,0,_,v,(u,us,a,h1,h2),h=>by subst a;show(v,us,rfl,h,h2)
 | r::qs,_,i+1,_,v,(u,us,a,h1,h2),h=>by subst a;show(u,us.set i v,rfl,h1,h2.set h)
theorem jT:FnScope ["self","question","over","spot","parts"] ["self"] (zi kE):=by done
theorem z4o(F:Fun K "whole" "Turner.whole" kE f fd)(T:Txt K mg)(n:PC K C)(G:TC K D):FnOk P w K mg base CX0 1 f fd ["self"] (spTWhole C D):=by
 clear jT vs H Q E h F;obtain⟨th,t,al,dx,c,q,v,us,rfl,d,mK,fin⟩:=h;obtain⟨vQ,⟨a0,vR,vS,vT,vU,tq,b0,vV,rfl,R⟩,vW⟩:=zZ.mp d.pl;have Bw:=yc _ _ R.me;have lu:=d.up.len;intro aa A outer sh hr;show(_,(zc (seT 1 jT (zA (zA v0 rfl) rfl))
  (zc (foR (zeZ rfl T.reversed (zP (zA v0 rfl) zb)) (z8h rfl (z1p (gnM 2 jT) (z1p (gnM 3 jT) z6k)))
   (zc (y0 (j:=4) rfl jT.nd rfl (w0g rfl) (CompSc.of (sx:=zi kE) (NX:= ["self","question","over","spot","parts"]) (fr:= []) (ix:= []) rfl rfl ()) (zT (zA v2 rfl)) (λm m m m m m=>jh) (λm m m m m m=>(z4v (K:=K) rfl v0 rfl)))
   (zc (z6x v1 (z8G v4 v3 set_list))
   (zf (seT 1 jT (zo z9G (zA v2 rfl) (jj z1h rfl T.tuple qZ (za v4 zb))))))))
  (zf (zp v1)))),?_)
 generalize hK0:K=K1;generalize hK1:C=C1;generalize hK2:D=D1
 revert D1
 revert C1
 revert K1
 show z6l #[] ?_;show !(z6f G d.me (zew n Bw ?_));show !(z9f G d.me (al,!(SqL.of d.ab,?_)));show zdS (xs:=us.reverse) (λi σ H'=>∃u o2 o3 o4,σ= [some (.ref t),some u,o2,o3,o4]/\zw H H'/\QAt H' (plug (c.take i) q) u) (tq,none,none,none,rfl,zw.refl _,R.qst.same yc) ?_ ?_ ?_
 .rintro i σ H' _ ⟨u,o2,o3,o4,rfl,s',_⟩;show SqL.of (s' _ _ d.ab)
 .rintro i x σ H' hi ⟨u,o2,o3,o4,rfl,s',l⟩;rw[List.reverse_reverse]at hi;obtain⟨p,k,S,pv,hc,rfl,Z,Bx⟩:=d.up.at hi;have U:=zc1 mK hc;obtain⟨ws,⟨a,ah,hd,wl,bV,qv,b,xs,rfl,nd⟩,kd⟩:=zZ.mp Bx;have lo:zw (hid H al) H':=yc.trans s';have me:=lo _ _ nd.me;have wit:=lo _ _ nd.wit;have N:=kd.len;have lk:=z2B p;have By:=kd.ev (Ev.of (Nt.of lo));show(S,!(SqT.of (lo _ _ Z),rfl,_,[_],rfl,_,[],rfl,rfl,?_));show !(km n me (wl,rfl,(_,SqL.of wit),?_));show jc (xs:=ws) (λi ys H2=>H2=H'/\ys.length=i/\yt H' ((kids p).take i) ys) (rfl,rfl,by rw[w0N];rfl) ?_ ?_ ?_
  .rintro i ys H2 hi ⟨rfl,s,_⟩;show(SqL.of wit,zG ∅)
  .rintro i y ys H2 hi ⟨rfl,s,hq⟩;have I:i<(kids p).length:=by rw[<-N];show(wg.mp hi).1
   obtain⟨v,J,pv⟩:=By.at (we I);rw[hi]at J;cases J;obtain⟨us,⟨a2,cI,aX,dy,cu,bY,b2,cV,rfl,L⟩,_⟩:=zZ.mp pv;show !(zew n L.me (rfl,by rw[wm,s];rfl,?_));rw[wR,we I];show hq.app (_,[],rfl,L.qst,rfl)
  .rintro ys H2 ⟨rfl,s,hq⟩ np M;rw[N,qf]at hq;clear np M H3 n3 x3 np;show !(!(!(np,_,_,k,rfl,rfl,x3,z9r ∅,?_)));have r:zw H2 (upd H3 np (.lst (ys.set k u))):=λb o e=>by rw[zj λz=>by rw[z,M]at e;cases e];show n3 _ _ e
   have O:upd H3 np (.lst (ys.set k u)) np=some (.lst (ys.set k u)):=zh;generalize upd H3 np (.lst (ys.set k u))=H4 at r O ⊢;have Bz:=(hq.set (i:=k) l).same r;show !(yL n (r _ _ me) (!(np,!(.inl (SqL.of O,λtp Y=>?_)))));clear tp Y H5 n5 x5 tp;have B:=r.trans n5;have FA:ys.length=(kids p).length:=by lia
   have X:kQ H5 (zN p k (plug (c.take i) q)) xs:=zbA (nd.ahx.mono λb xs z=>B _ _ (lo _ _ z));show(ah,tp,xs,!(rfl,SqT.of (B _ _ (lo _ _ nd.ahd)),SqT.of x5,(z57 nd.ahx).1,?_,λe=>?_,λne p' a7=>?_))
   .have:=(z57 nd.ahx).2;rw[List.length_set];show jb ∅
   .have:=Qd List.length e;rw[List.length_set]at this;have:ys.length=0:=this
    lia
   .clear p' a7 H6 n6 x6 p';have s6:=B.trans n6;show(.ref p',_,_,!(s'.trans s6,?_));have et:c.take (i+1)=c.take i++[(p,k)]:=by rw[wR,hc];rfl
    rw[et,z6e];show zfp (X.mono λb xs z=>n6 _ _ z) ?_ x6;rw[z2m U];show Bz.same (n5.trans n6)
 .rintro σ H' ⟨u,o2,o3,o4,rfl,s',l⟩;rw[w0A,lu,qf]at l;show !(fin u H' s' l)
inductive Tns (th:Str->List Str) (H:Hp):List V->Qn->Qn->Prop
 | one:∀q v,QAt H q v->Tns th H [v] q q
 | more:∀us p q r v,Tns th H us p q->One th q r->QAt H r v->Tns th H (us++[v]) p r
theorem Tns.mono(k:∀b xs,H b=some (.tup xs)->H' b=some (.tup xs)){p:Qn}(h:Tns th H us p q):Tns th H' us p q:=by
 induction h with
 | one q v h=>show .one q v (h.mono k)
 | more us p q r v _ o h a=>show .more us p q r v a o (h.mono k)
theorem Tns.last{p:Qn}(h:Tns th H us p q):∃vs v,us=vs++[v]/\QAt H q v:=by
 cases h with
 | one q v h=>show([],_,rfl,h)
 | more us p q r v t o h=>show(_,_,rfl,h)
theorem Tns.eqv(T:TabOk th tr){p:Qn}(h:Tns th H us p q)(wf:wfQ th p):Eqv th tr p q/\us.length+nu th q<=nu th p+1/\wt q<=wt p:=by
 induction h with
 | one q v h=>show(Eqv.refl wf,by rw[wJ];lia,wA _)
 | more us p q r v t o h a=>
  obtain⟨e,l,w⟩:=a wf;have d:=o.dn T e.wf;show(e.trans (o.eqv T e.wf),by rw[wm,wJ];have:=d.nu;lia,wY d.wt w)
inductive spTurnings (C T1 T2 T3 T4:Addr) (vs:List V) (H:Hp) (Q:VK) (E:XK):Prop
 | mk:∀th tr q v tp,vs= [.ref tp,v]->TabOk th tr->FourAt th tr H tp->QAt H q v->wfQ th q->wt q<=4000->jN H T4 zcu zbT->Ls T1 T2 T3 H->T4≠T1->T4≠T2->T4≠T3->(∀(l:Addr) (us:List V) (q':Qn) (H':Hp),Ev th C H H'->Ls T1 T2 T3 H'->H' l=some (.lst us)->Tns th H' us q q'->nf th q'->Q (.ref l) H')->spTurnings C T1 T2 T3 T4 vs H Q E
theorem z2g:FnScope ["tables","question","turner","questions"] ["tables","question"] (zi z2P):=by done
theorem z8b(F:Fun K "turnings" "turnings" z2P f fd)(T:Txt K mg)(p:KnC P w K mg base 10 "Turner" ["self","tables","question"] (spTInit C D T1 T2 T3 T4) D)(j:KnM P w K mg base 10 "turn" ["self"] (spTurn C D) D)(i:KnM P w K mg base 1 "whole" ["self"] (spTWhole C D) D):FnOk P w K mg base CX0 12 f fd ["tables","question"] (spTurnings C T1 T2 T3 T4):=by
 clear z2g vs H Q E h F;obtain⟨th,tr,q,v,tp,rfl,TT,h4,hq,wf,hw,hT,hL,d1,d2,d3,fin⟩:=h;intro aa A outer sh hr;show(_,(zc (seT 2 z2g (yr p hr.m rfl (za v0 (za v1 zb))))
  (zc (seT 3 z2g (zC (za v1 zb)))
  (zc (z4f (zX (z7L j hr.m v2))
   (zf (j7 (apP v3 (zK (z7L i hr.m v2) zb)))))
  (zf (zp v3))))),?_)
 generalize hK0:K=K1
 revert K1
 show jd #[] ?_;show !(!(λx dx M hX ai=>?_));have s1:zw H (upd (upd H dx (.own x)) x (.ins D dx [])):=λb o e=>by
  have b1:b≠x:=λz=>by rw[z,M]at e;cases e
  have b2:b≠dx:=λz=>by rw[z,hX]at e;cases e
  rw[zj b1,zj b2];show e
 show(th,tr,q,v,x,dx,tp,rfl,zh,TT,h4.same s1,hq.same s1,wf,wY (z6w q) ∅,hT.same s1,hL.same s1,d1,d2,d3,λv1 al H1 X L1 t1=>(rfl,?_));have U:Ev th C H (hid H1 al):=(λb o e n r=>X b o (λz=>by rw[z,M]at e;cases e) (s1 _ _ e) n,λa aj ah hd wl qv b e=>(b,X a _ (λz=>by rw[z,M]at e;cases e) (s1 _ _ e) (λr z=>by cases z),.inl rfl));show !((yG rfl),λl hl=>?_);show z27 ?_;dsimp only;show z3A ?_;have gU:QAt H1 q v:=hq.mono λb xs e=>yc _ _ (U.tup e)
 show yV (λm σ H2=>∃c t v2 ws us,σ= [some (.ref tp),some v,some (.ref x),some (.ref l)]/\H2 l=some (.lst us)/\TrAt th C D (hid H2 l) x al c t v2 dx ws/\z0s th c t/\Tns th (hid H2 l) us q (plug c t)/\Ev th C H (hid (hid H2 l) al)/\Ls T1 T2 T3 (hid H2 l)/\m=nu th (plug c t))
  _ ([],q,v1,[],[v],rfl,zh,by rw[yK hl];show t1,trivial,by rw[yK hl];show .one q v gU,by rw[yK hl];show U,by rw[yK hl];show L1,rfl) ?_
 rintro m σ H2 ⟨c,t,v2,ws,us,rfl,l2,G,mG,N2,e2,I,rfl⟩;obtain⟨S,n2,w2⟩:=N2.eqv TT wf;show !(x,dx,_,l,us,rfl,yc _ _ G.me,rfl,l2,th,tr,x,al,dx,c,t,v2,ws,rfl,TT,G,mG,S.wf,∅,λr L c' q' v' R st J B o u=>!?_);have O:=e2.trans st.ev;have Z:=st.ls I G.ab;have Y:hid (upd L l (.lst us)) l=L:=yK u;have N:Tns th L us q (plug c t):=N2.mono λb xs e=>yc _ _ (st.ev.tup (zel G.ab b xs e))
 rcases o with⟨rfl,on⟩|⟨rfl,ep,BA⟩
 .refine ifT rfl ?_;show(_,λσ' H' z=>z,?_);show !(.inl (rfl,_,SqL.of zh),!(x,dx,_,l,us,rfl,zz u _ _ _ J.me,rfl,zh,th,x,al,dx,c',q',v',R,rfl,by rw[Y];show J,B,λv4 H4 y mq s=>?_));rw[Y]at y;have d:=on.dn TT S.wf;show(l,~~~(zh,by
   have z1:=zeE (th:=th) q;have z2:wt q*wt q<=4000*4000:=w0L hw hw;have z3:sizeLine=16777216:=Qq;have z4:=d.nu
   lia,?_))
  show(_,d.nu,c',q',v',R,us++[v4],rfl,zh,?_,B,?_,?_,?_,rfl)
  .rw [z1o,yK s];show J.same y
  .rw [z1o,yK s];show .more us q _ _ v4 (N.mono λb xs e=>y _ _ e) on mq
  .rw [z1o,yK s];show O.trans (Ev.of (Nt.of (z0T y)))
  .rw [z1o,yK s];show Z.same y
 .refine ifF rfl ?_;show !(fin l us _ _ (O.trans (Ev.of (Nt.of (yc.trans (zz u _))))) (Z.same (zz u _)) zh (by rw[ep];show N.mono λb xs e=>zz u _ _ _ e) BA)
inductive Tz (H:Hp):V->Nat->Prop
 | s x:Tz H (.str x) 1
 | i n:Tz H (.int n) 1
 | t p xs (ns:List Nat):H p=some (.tup xs)->xs.length=ns.length->(∀(k:Nat) x n,xs[k]? =some x->ns[k]? =some n->Tz H x n)->Tz H (.ref p) (ns.sum+1)
inductive Lk (H:Hp):V->V->Prop
 | s x:Lk H (.str x) (.str x)
 | i n:Lk H (.int n) (.int n)
 | t p p' xs ys:H p=some (.tup xs)->H p'=some (.tup ys)->xs.length=ys.length->(∀(k:Nat) x y,xs[k]? =some x->ys[k]? =some y->Lk H x y)->Lk H (.ref p) (.ref p')
theorem Tz.pos{v:V}{n:Nat}(h:Tz H v n):1<=n:=by cases h<;>lia
noncomputable abbrev It4:=Addr×V×V×Nat
noncomputable def sz4(its:List It4):Nat:=(its.map λit=>it.2.2.2).sum
theorem yZ(a b:List It4):sz4 (a++b)=sz4 a+sz4 b:=by unfold sz4;rw[wF,w0Z]
theorem z0W(x:It4):sz4 [x]=x.2.2.2:=by simp[sz4]
theorem z6U:∀{its:List It4},(∀it∈its,1<=it.2.2.2)->its.length<=sz4 its
 | [],_=>wA _
 | a::r,h=>by
  have h1:=z6U (its:=r) λit m=>h it (wZ _ m)
  have h2:=h a qy;have b:sz4 (a::r)=a.2.2.2+sz4 r:=by simp[sz4]
  rw[b,wP]
  lia
theorem z33:∀{ns:List Nat},(∀n∈ns,1<=n)->ns.length<=ns.sum
 | [],_=>wA _
 | a::r,h=>by
  have h1:=z33 (ns:=r) λn m=>h n (wZ _ m)
  have h2:=h a qy;rw[Qj,wP]
  lia
def z3X(H0 H:Hp)(it:It4):Prop:=H it.1=some (.tup [it.2.1,it.2.2.1])/\(∃m,Tz H0 it.2.1 m)/\Tz H0 it.2.2.1 it.2.2.2
def z3X.mono(m:∀b xs,H b=some (.tup xs)->H' b=some (.tup xs)){it:It4}(h:z3X H0 H it):z3X H0 H' it:=(m _ _ h.1,h.2)
theorem za7{gs:List It4}{g:It4}{p:Prop}(h:p↔∀it∈gs++[g],Lk H it.2.1 it.2.2.1):p↔Lk H g.2.1 g.2.2.1/\∀it∈gs,Lk H it.2.1 it.2.2.1:=
 h.trans (λz=>(z g (by simp),λit m=>z it (by simp[m])),λz it m=>(wE.mp m).elim (z.2 it) λm=>by rw[ww.mp m];show z.1)
theorem zgc{x:Str}{i:Int}(h:Lk H (.str x) (.int i)):False:=by cases h
theorem zg8{x:Str}{i:Int}(h:Lk H (.int i) (.str x)):False:=by cases h
theorem zgy{x:Str}(h:Lk H (.ref p) (.str x)):False:=by cases h
theorem zgE{i:Int}(h:Lk H (.ref p) (.int i)):False:=by cases h
theorem zg2{x:Str}(h:Lk H (.str x) (.ref p)):False:=by cases h
theorem zgm{i:Int}(h:Lk H (.int i) (.ref p)):False:=by cases h
theorem zge{x y:Str}(h:Lk H (.str x) (.str y)):x=y:=by cases h;rfl
theorem zgB{x y:Int}(h:Lk H (.int x) (.int y)):x=y:=by cases h;rfl
theorem z9d{p':Addr}(hp:H p=some (.tup xs))(a7:H p'=some (.tup ys))(h:Lk H (.ref p) (.ref p')):xs.length=ys.length/\∀(k:Nat) a b,xs[k]? =some a->ys[k]? =some b->Lk H a b:=by
 cases h with
 | t _ _ f e h1 h2 c d=>
  rw[hp]at h1;rw[a7]at h2;cases h1;cases h2;show(c,d)
theorem zgj:¬false=true:=by decide
inductive spLike (K:W.Frag) (vs:List V) (H:Hp) (Q:VK) (E:XK):Prop
 | mk:∀x y m n,vs= [x,y]->Tz H x m->Tz H y n->n<=900000->(∀b H',zw H H'->(b=true↔Lk H x y)->Q (.bl b) H')->spLike K vs H Q E
theorem z0x:FnScope ["_law_found","_law_due","_law_todo","_law_pair","_law_k"] ["_law_found","_law_due"] (zi z2e):=by done
theorem z6z(F:Fun K "_law_like" "_law_like" z2e f fd)(T:Txt K mg)(d:Kn P w K mg base 1 "_law_whole" ["_law_found"] spWhole):FnOk P w K mg base CX0 2 f fd ["_law_found","_law_due"] (spLike K):=by
 clear z0x vs H Q E h F;obtain⟨x,y,m,n,rfl,hx,hy,hsz,q⟩:=h;intro aa A outer sh hr;have hu:=z1P hr;show(_,(zc (seT 2 z0x (zC (zQ (zD (za v0 (za v1 zb))) zb)))
  (zc (z4f (cmT (z4T hu) v2 (zC zb))
   (zc (seT 3 z0x (z26 wO Qz QA z2b v2))
   (zf (zB (zX (zF zI rfl T.isinstance wI (zl (ixT v3 zd) (za (zY (v:= .ty "tuple") rfl T.tuple qZ rfl) zb))))
    (zc (zB (PW.pt (z37 (jJ (zX (zF zI rfl T.isinstance wI (zl (ixT v3 zd) (za (zY (v:= .ty "tuple") rfl T.tuple qZ rfl) zb))))) (z28 (cmT z0R (leN T.len (zl (ixT v3 zd) zb)) (leN T.len (zl (ixT v3 zd) zb))))))
     (zf (zp jv))
     zt)
    (zf (foR (jU rfl T.range (zK (leN T.len (zl (ixT v3 zd) zb)) zb)) (gnM 4 z0x)
     (zf (j7 (apP v2 (zQ (zD (zl (ixT (ixT v3 zd) v4) (zl (ixT (ixT v3 zd) v4) zb))) zb)))))))
    (zf (zB (zX (zF zI rfl T.isinstance wI (zl (ixT v3 zd) (za (zY (v:= .ty "str") rfl T.str qP rfl) zb))))
     (zf (zB (PW.pt (z37 (jJ (zX (zF zI rfl T.isinstance wI (zl (ixT v3 zd) (za (zY (v:= .ty "str") rfl T.str qP rfl) zb))))) (z28 (cmT z0R (ixT v3 zd) (ixT v3 zd)))))
      (zf (zp jv))
      zt))
     (zf (zB (PW.pt (z37 (jJ (zX (zS d hr.m (zl (ixT v3 zd) zb)))) (z28 (cmT z0R (ixT v3 zd) (ixT v3 zd)))))
      (zf (zp jv))
      zt))))))))
  (zf (zp jv)))),?_)
 generalize hK0:K=K1
 revert K1
 show jd #[] ?_;show !(!?_);clear pa ff H1 n1 x1;show((yG rfl),λtp aw=>?_);have gZ:H tp=none:=n1.free aw;clear tp aw H2 n2 x2 tp;have s2:=n1.trans n2;show yV (λm σ H'=>∃(its:List It4) (o3 o4:Option V),σ= [some x,some y,some (.ref tp),o3,o4]/\zw H H'/\H' tp=some (.lst (its.map λit=>V.ref it.1))/\(∀it∈its,z3X H H' it)/\sz4 its<=900000/\(Lk H x y↔∀it∈its,Lk H it.2.1 it.2.2.1)/\m=sz4 its) (sz4 [(pa,x,y,n)])
  ([(pa,x,y,n)],none,none,rfl,s2,x2,λit m=>by rw[ww.mp m];show(n2 _ _ x1,(_,hx),hy),by rw[z0W];show hsz,by simp,rfl) ?_
 rintro m σ H3 ⟨its,o3,o4,rfl,s3,h3,dZ,hz,J,rfl⟩;show !?_;clear ep hep H4 n4 x4;have R:=n4 _ _ h3;have s4:=s3.trans n4;show(tp,ep,_,rfl,rfl,SqL.of R,SqL.of x4,!?_);by_cases ai:its= []
 .subst ai;show ifF (by rfl) ?_;show q true H4 s4 (λg=>J.mpr (List.forall_mem_nil _),λg=>rfl)
 obtain⟨gs,⟨ga,I,C,M⟩,rfl⟩:=z2p ai;show ifT (by simp) ?_;show z7B λD hN hR=>?_
 rw[yZ,z0W]at hz;replace J:=za7 J;have e0:((gs++[Prod.mk ga (Prod.mk I (Prod.mk C M))]).map λit=>V.ref it.1)=(gs.map λit=>V.ref it.1)++[V.ref ga]:=by rw[wF];rfl
 rw[e0]at R;show !(.inl (rfl,_,SqL.of R),tp,~~~(R,z16 _ _,?_));rw[QI];have tm:=z1A (o:= .lst (gs.map λit=>V.ref it.1)) R;have cW:∀it∈gs++[(ga,I,C,M)],z3X H (upd H4 tp (.lst (gs.map λit=>V.ref it.1))) it:=λit mm=>((dZ it mm).mono λb xs z=>n4 _ _ z).mono tm
 have j:zw H (upd H4 tp (.lst (gs.map λit=>V.ref it.1))):=s4.put gZ;have h5:upd H4 tp (.lst (gs.map λit=>V.ref it.1)) tp=some (.lst (gs.map λit=>V.ref it.1)):=zh;generalize upd H4 tp (.lst (gs.map λit=>V.ref it.1))=H5 at cW j h5 ⊢;obtain⟨c,⟨gm,O⟩,Y⟩:z3X H H5 (ga,I,C,M):=cW _ (wC _ (ww.mpr rfl));replace c:H5 ga=some (.tup [I,C]):=c;replace O:Tz H I gm:=O;replace Y:Tz H C M:=Y;replace J:Lk H x y↔Lk H I C/\∀it∈gs,Lk H it.2.1 it.2.2.1:=J
 have ck:∀it∈gs,z3X H H5 it:=λit mm=>cW it (q5 _ mm)
 have lz:sz4 (gs++[(ga,I,C,M)])=sz4 gs+M:=by rw[yZ,z0W]
 replace hz:sz4 gs+M<=900000:=hz;have mW:=Y.pos;have no:∀{G:Hp},zw H G->(Lk H I C->False)->D.rt (.bl false) G:=λs z=>hR _ _ (q false _ s (λe=>absurd e zgj,λl=>(z (J.mp l).1).elim))
 have on:Lk H I C->D.nx [some x,some y,some (V.ref tp),some (.ref ga),o4] H5:=
  λl=>hN _ _ (sz4 gs,∅,gs,_,_,rfl,j,h5,ck,∅,J.trans (λz=>z.2,λz=>(l,z)),rfl)
 cases Y with
 | s z=>
  show !(zg c j8 (_,_,_,!(TyOf.str z,z08,!?_)));show ifF rfl ?_;show !(zg c j8 (_,_,_,!(TyOf.str z,jr,!?_)));show ifT rfl ?_;cases O with
  | s u=>
   show !(zg c zH (_,_,_,!(TyOf.str u,jr,!?_)));show ifF rfl ?_;show !(zg c zH (!(zg c j8 (rfl,!?_))));rw[j6];by_cases e:u=z
   .refine ifF (by rw[wN e];rfl) ?_;show on (e ▸ .s _)
   .refine ifT (by rw[wK e];rfl) ?_;show no j λl=>e (zge l)
  | i u=>
   show !(zg c zH (_,_,_,!(TyOf.int u,kh,!?_)));show ifT rfl ?_;show no j zg8
  | t N xs ms B lx aM=>
   show !(zg c zH (_,_,_,!(TyOf.tup (j _ _ B),z8c,!?_)));show ifT rfl ?_;show no j zgy
 | i z=>
  show !(zg c j8 (_,_,_,!(TyOf.int z,z05,!?_)));show ifF rfl ?_;show !(zg c j8 (_,_,_,!(TyOf.int z,kh,!?_)));show ifF rfl ?_;cases O with
  | s u=>
   show !(zg c zH (_,_,rfl,.inr (rfl,.inl (_,rfl)),!?_));show ifT rfl ?_;show no j zgc
  | i u=>
   show !(zg c zH (_,_,rfl,.inl (_,rfl,rfl),!?_));show ifF rfl ?_;show !(zg c zH (!(zg c j8 (rfl,!?_))));by_cases e:u=z
   .refine ifF (by rw[e];simp) ?_;show on (e ▸ .i _)
   .refine ifT (by simpa using e) ?_;show no j λl=>e (zgB l)
  | t N xs ms B lx aM=>
   show !(zg c zH (_,_,rfl,.inr (rfl,.inr (_,_,rfl,j _ _ B)),!?_));show ifT rfl ?_;show no j zgE
 | t yp ys ns L ly bq=>
  show !(zg c j8 (_,_,_,!(TyOf.tup (j _ _ L),jr,!?_)));show ifT rfl ?_;cases O with
  | s u=>
   show !(zg c zH (_,_,_,!(TyOf.str u,z08,!?_)));show ifT rfl ?_;show no j zg2
  | i u=>
   show !(zg c zH (_,_,_,!(TyOf.int u,z05,!?_)));show ifT rfl ?_;show no j zgm
  | t N xs ms B lx aM=>
   show !(zg c zH (_,_,_,!(TyOf.tup (j _ _ B),jr,!?_)));show ifF rfl ?_;show !(zg c zH (N,!(.inr (SqT.of (j _ _ B)),!(zg c j8 (yp,!(.inr (SqT.of (j _ _ L)),rfl,!?_))))));by_cases el:xs.length=ys.length
   rotate_left
   .refine ifT (by simp;lia) ?_;show no j λl=>el (z9d B L l).1
   show ifF (by rw[el];simp) ?_;have xb:ns.length<=ns.sum:=z33 λn mm=>by
    obtain⟨k,r⟩:=w0l mm;have br:k<ys.length:=by rw[ly];show(wg.mp r).1
    show(bq k _ n (we br) r).pos
   have tE:∀i,(ns.take i).sum<=ns.sum:=λi=>by
    have:=Qd List.sum (List.take_append_drop i ns);rw[w0Z]at this
    lia
   have hL:Lk H (.ref N) (.ref yp)↔∀(k:Nat) a b,xs[k]? =some a->ys[k]? =some b->Lk H a b:=(λl=>(z9d B L l).2,λl=> .t _ _ _ _ B L el l)
   show !(zg c j8 (yp,!(.inr (SqT.of (j _ _ L)),!(∅,∅,z54 (lo:=0) (n:=ys.length) (λi σ H'=>∃(p:List It4) (o4:Option V),σ= [some x,some y,some (.ref tp),some (.ref ga),o4]/\zw H H'/\H' tp=some (.lst ((gs++p).map λit=>V.ref it.1))/\(∀it∈gs++p,z3X H H' it)/\p.length=i/\sz4 p=(ns.take i).sum/\
    H' ga=some (.tup [.ref N,.ref yp])/\∀(k:Nat) it,p[k]? =some it->xs[k]? =some it.2.1/\ys[k]? =some it.2.2.1) ([],o4,rfl,j,by rw[Q3];show h5,by rw[Q3];show ck,rfl,rfl,c,λg g z=>by cases z) ?_ ?_))))
   .rintro i σ H6 D2 hM _ hi ⟨p,o4,rfl,S,Z,bW,X,i6,tF,U⟩;have ix:i<xs.length:=by lia
    have ins:i<ns.length:=by lia
    have ex:=we ix;have ey:=we hi;have en:=we ins;have dF:atI xs (0+(i:Int))=some xs[i]:=by rw[w0q];show zR ex
    have tG:atI ys (0+(i:Int))=some ys[i]:=by rw[w0q];show zR ey
    obtain⟨mi,tH⟩:∃mi,ms[i]? =some mi:=(_,we ∅)
    have wx:=aM i _ _ ex tH;have wy:=bq i _ _ ey en;show !(.inl (rfl,_,SqL.of Z),!(zg tF zH (!(zg (S _ _ B) dF (!(zg tF j8 (!(zg (S _ _ L) tG ?_))))))));clear np ag H7 n7 x7;have h7:=n7 _ _ Z;have mX:=z1A (o:= .lst (((gs++p).map λit=>V.ref it.1)++[V.ref np])) h7;have oO:∀b ws,H6 b=some (.tup ws)->upd H7 tp (.lst (((gs++p).map λit=>V.ref it.1)++[V.ref np])) b=some (.tup ws):=λb ws z=>mX b ws (n7 _ _ z)
    have BB:=tE i;have l1:=z6U (its:=gs++p) λit mm=>(bW it mm).2.2.pos
    rw[yZ]at l1;show(tp,~~~(h7,zG (by rw[w9];lia),?_));show hM _ _ (p++[(np,xs[i],ys[i],ns[i])],_,rfl,(S.trans n7).put gZ,by rw[zh];simp,λit mm=>?_,by rw[wm,X];rfl,?_,oO _ _ tF,λk it e=>?_)
    .rw [<-QE]at mm;rcases wE.mp mm with mm|mm
     .exact(bW it mm).mono oO
     .rw [ww.mp mm];show(mX _ _ x7,(_,wx),wy)
    .rw [yZ,z0W,i6,wR,en,w0Z];simp
    .by_cases r:k<p.length
     .rw [qY r]at e;show U k it e
     .have dA:=(wg.mp e).1;rw[wm,wJ]at dA;have br:k=i:=by lia
      subst br;rw[qW ∅,X,w1V]at e;cases e;show(ex,ey)
   .rintro σ H6 ⟨p,o4,rfl,S,Z,bW,X,i6,_,U⟩;rw[ly,qf]at i6;show hN _ _ (sz4 (gs++p),?_,gs++p,_,_,rfl,S,Z,bW,by rw[yZ];lia,?_,rfl)
    .rw [lz,yZ]
     lia
    .rw [J,hL];constructor
     .rintro⟨z1,z2⟩ it mm;rcases wE.mp mm with mm|mm
      .exact z2 it mm
      .obtain⟨k,r⟩:=w0l mm;show z1 k _ _ (U k it r).1 (U k it r).2
     .intro z;show(λk a b ha hb=>?_,λit mm=>z it (q5 _ mm));have r:k<p.length:=by rw[X];show(wg.mp hb).1
      have e:=we r;obtain⟨e1,e2⟩:=U k _ e;rw[ha]at e1;rw[hb]at e2;cases e1;cases e2;show z _ (wC _ (wz r))
theorem lkn:∀(k:Nat) x y,([]:List V)[k]? =some x->([]:List V)[k]? =some y->Lk H x y:=λv v v e=>by simp at e
theorem lkc{a b:V}(h:Lk H a b)(r:∀(k:Nat) x y,xs[k]? =some x->ys[k]? =some y->Lk H x y):∀(k:Nat) x y,(a::xs)[k]? =some x->(b::ys)[k]? =some y->Lk H x y
 | 0,x,y,e,f=>by cases e;cases f;show h
 | k+1,x,y,e,f=>r k x y e f
theorem z9M(a:Side):Lk H a.v a.v:=by cases a with|nm s=>show .s s|nu i=>show .i i
theorem zep(ns:List Str):∀(k:Nat) x y,(ns.map V.str)[k]? =some x->(ns.map V.str)[k]? =some y->Lk H x y:=λk x y e f=>by
 rw[e]at f;cases f;obtain⟨n,_,rfl⟩:=z8v e;show .s n
theorem ze3:∀{c:Cond} {v v':V},zE H c v->zE H c v'->Lk H v v'
 | .less a b,_,_,h,g | .same a b,_,_,h,g=>by
  obtain⟨p,rfl,h⟩:=h;obtain⟨p',rfl,g⟩:=g;show .t p p' _ _ h g rfl (lkc (.s _) (lkc (z9M a) (lkc (z9M b) lkn)))
 | .no c,_,_,h,g=>by
  obtain⟨p,x,rfl,h,h1⟩:=h;obtain⟨p',i,rfl,g,e⟩:=g;show .t p p' _ _ h g rfl (lkc (.s _) (lkc (ze3 h1 e) lkn))
 | .an c d,_,_,h,g | .or c d,_,_,h,g=>by
  obtain⟨p,x,y,rfl,h,h1,h2⟩:=h;obtain⟨p',i,j,rfl,g,e,f⟩:=g;show .t p p' _ _ h g rfl (lkc (.s _) (lkc (ze3 h1 e) (lkc (ze3 h2 f) lkn)))
theorem z5m:∀{q:Qn} {v v':V},QAt H q v->QAt H q v'->Lk H v v'
 | .table n,_,_,h,g=>by
  obtain⟨p,rfl,h⟩:=h;obtain⟨p',rfl,g⟩:=g;show .t p p' _ _ h g rfl (lkc (.s _) (lkc (.s _) lkn))
 | .pick c q,_,_,h,g=>by
  obtain⟨p,x,y,rfl,h,h1,h2⟩:=h;obtain⟨p',j,f,rfl,g,e,d⟩:=g;show .t p p' _ _ h g rfl (lkc (.s _) (lkc (ze3 h1 e) (lkc (z5m h2 d) lkn)))
 | .cols ns q,_,_,h,g=>by
  obtain⟨p,x,y,rfl,h,h1,h2⟩:=h;obtain⟨p',j,f,rfl,g,e,d⟩:=g;show .t p p' _ _ h g rfl (lkc (.s _) (lkc (.t x j _ _ h1 e rfl (zep ns)) (lkc (z5m h2 d) lkn)))
 | .pair q r,_,_,h,g | .both q r,_,_,h,g=>by
  obtain⟨p,x,y,rfl,h,h1,h2⟩:=h;obtain⟨p',j,f,rfl,g,e,d⟩:=g;show .t p p' _ _ h g rfl (lkc (.s _) (lkc (z5m h1 e) (lkc (z5m h2 d) lkn)))
 | .join a b q r,_,_,h,g=>by
  obtain⟨p,x,y,rfl,h,h1,h2⟩:=h;obtain⟨p',j,f,rfl,g,e,d⟩:=g;show .t p p' _ _ h g rfl (lkc (.s _) (lkc (.s _) (lkc (.s _) (lkc (z5m h1 e) (lkc (z5m h2 d) lkn)))))
 | .first n q,_,_,h,g=>by
  obtain⟨p,y,rfl,h,h2⟩:=h;obtain⟨p',f,rfl,g,d⟩:=g;show .t p p' _ _ h g rfl (lkc (.s _) (lkc (.i _) (lkc (z5m h2 d) lkn)))
 | .sort a q,_,_,h,g=>by
  obtain⟨p,y,rfl,h,h2⟩:=h;obtain⟨p',f,rfl,g,d⟩:=g;show .t p p' _ _ h g rfl (lkc (.s _) (lkc (.s _) (lkc (z5m h2 d) lkn)))
 | .group a b n s q,_,_,h,g=>by
  obtain⟨p,y,rfl,h,h2⟩:=h;obtain⟨p',f,rfl,g,d⟩:=g;show .t p p' _ _ h g rfl (lkc (.s _) (lkc (.s _) (lkc (.s _) (lkc (.s _) (lkc (.s _) (lkc (z5m h2 d) lkn))))))
inductive Al (H:Hp):List V->List V->Prop
 | nil:Al H [] []
 | cons {x y:V} {xs ys:List V}:Lk H x y->Al H xs ys->Al H (x::xs) (y::ys)
theorem zg7:∀{ys:List V},xs.length=ys.length->(∀(k:Nat) x y,xs[k]? =some x->ys[k]? =some y->Lk H x y)->Al H xs ys:=by
 induction xs with
 | nil=>
  intro ys e _;cases ys with
  | nil=>show .nil
  | cons=>simp at e
 | cons x xs d=>
  intro ys e h;cases ys with
  | nil=>simp at e
  | cons y ys=>show .cons (h 0 x y rfl rfl) (d (Nat.succ.inj e) λk a b ha c=>h (k+1) a b ha c)
theorem zdP{x:V}(h:Al H (x::xs) ys):∃y zs,ys=y::zs/\Lk H x y/\Al H xs zs:=by cases h with|cons a r=>show(_,_,rfl,a,r)
theorem zf8(h:Al H [] ys):ys= []:=by cases h;rfl
theorem zfQ{x:Str}(h:Lk H (.str x) y):y= .str x:=by cases h;rfl
theorem zgM{x:Int}(h:Lk H (.int x) y):y= .int x:=by cases h;rfl
theorem zdd{xs:List V}:∀(ws:List Str) {ys:List V},Al H (ws.map V.str++xs) ys->∃zs,ys=ws.map V.str++zs/\Al H xs zs
 | [],ys,h=>(ys,rfl,h)
 | w::ws,_,h=>by
  obtain⟨y,zs,rfl,l,r⟩:=zdP h;obtain⟨us,e,r'⟩:=zdd ws r;show(us,by rw[zfQ l,e];rfl,r')
theorem zd6{v:V}(hp:H p=some (.tup xs))(h:Lk H (.ref p) v):∃p' ys,v= .ref p'/\H p'=some (.tup ys)/\Al H xs ys:=by
 cases h with
 | t _ p' c ys h1 h2 a b=>
  rw[hp]at h1;cases h1;show(p',ys,rfl,h2,zg7 a b)
theorem zdF(h:Al H (ns.map V.str) ys):ys=ns.map V.str:=by
 obtain⟨zs,e,r⟩:=zdd (xs:= []) ns (by rw[Q3];show h);rw[e,zf8 r,Q3]
theorem zdn(ws:List Str){a v:V}(hp:H p=some (.tup (ws.map V.str++[a])))(h:Lk H (.ref p) v):∃p' a',v= .ref p'/\H p'=some (.tup (ws.map V.str++[a']))/\Lk H a a':=by
 obtain⟨p',ys,rfl,g,al⟩:=zd6 hp h;obtain⟨zs,e,c⟩:=zdd ws al;obtain⟨a',f,d,l,b⟩:=zdP c;rw[e,d,zf8 b]at g;show(p',a',rfl,g,l)
theorem z5x(ws:List Str){a b v:V}(hp:H p=some (.tup (ws.map V.str++[a,b])))(h:Lk H (.ref p) v):∃p' a' b',v= .ref p'/\H p'=some (.tup (ws.map V.str++[a',b']))/\Lk H a a'/\Lk H b b':=by
 obtain⟨p',ys,rfl,g,al⟩:=zd6 hp h;obtain⟨zs,e,j⟩:=zdd ws al;obtain⟨a',q,c,l,d⟩:=zdP j;obtain⟨b',o,i,f,n⟩:=zdP d;rw[e,c,i,zf8 n]at g;show(p',a',b',rfl,g,l,f)
theorem z9y{a:Side}(h:Lk H a.v y):y=a.v:=by cases a<;>cases h<;>rfl
theorem z6d:∀{c:Cond} {v v':V},zE H c v->Lk H v v'->zE H c v'
 | .less a b,_,_,h,l=>by
  obtain⟨p,rfl,h⟩:=h;obtain⟨p',_,_,rfl,g,l1,l2⟩:=z5x ["less"] h l;rw[z9y l1,z9y l2]at g;show(p',rfl,g)
 | .same a b,_,_,h,l=>by
  obtain⟨p,rfl,h⟩:=h;obtain⟨p',_,_,rfl,g,l1,l2⟩:=z5x ["same"] h l;rw[z9y l1,z9y l2]at g;show(p',rfl,g)
 | .no c,_,_,h,l=>by
  obtain⟨p,x,rfl,h,h1⟩:=h;obtain⟨p',_,rfl,g,l1⟩:=zdn ["not"] h l;show(p',_,rfl,g,z6d h1 l1)
 | .an c d,_,_,h,l=>by
  obtain⟨p,x,y,rfl,h,h1,h2⟩:=h;obtain⟨p',_,_,rfl,g,l1,l2⟩:=z5x ["and"] h l;show(p',_,_,rfl,g,z6d h1 l1,z6d h2 l2)
 | .or c d,_,_,h,l=>by
  obtain⟨p,x,y,rfl,h,h1,h2⟩:=h;obtain⟨p',_,_,rfl,g,l1,l2⟩:=z5x ["or"] h l;show(p',_,_,rfl,g,z6d h1 l1,z6d h2 l2)
theorem z1Q:∀{q:Qn} {v v':V},QAt H q v->Lk H v v'->QAt H q v'
 | .table n,_,_,h,l=>by
  obtain⟨p,rfl,h⟩:=h;obtain⟨p',_,rfl,g,l1⟩:=zdn ["table"] h l;rw[zfQ l1]at g;show(p',rfl,g)
 | .pick c q,_,_,h,l=>by
  obtain⟨p,x,y,rfl,h,h1,h2⟩:=h;obtain⟨p',_,_,rfl,g,l1,l2⟩:=z5x ["pick"] h l;show(p',_,_,rfl,g,z6d h1 l1,z1Q h2 l2)
 | .cols ns q,_,_,h,l=>by
  obtain⟨p,x,y,rfl,h,h1,h2⟩:=h;obtain⟨p',_,_,rfl,g,l1,l2⟩:=z5x ["cols"] h l;obtain⟨e,zs,rfl,d,al⟩:=zd6 h1 l1;rw[zdF al]at d;show(p',e,_,rfl,g,d,z1Q h2 l2)
 | .pair q r,_,_,h,l=>by
  obtain⟨p,x,y,rfl,h,h1,h2⟩:=h;obtain⟨p',_,_,rfl,g,l1,l2⟩:=z5x ["pair"] h l;show(p',_,_,rfl,g,z1Q h1 l1,z1Q h2 l2)
 | .both q r,_,_,h,l=>by
  obtain⟨p,x,y,rfl,h,h1,h2⟩:=h;obtain⟨p',_,_,rfl,g,l1,l2⟩:=z5x ["both"] h l;show(p',_,_,rfl,g,z1Q h1 l1,z1Q h2 l2)
 | .join a b q r,_,_,h,l=>by
  obtain⟨p,x,y,rfl,h,h1,h2⟩:=h;obtain⟨p',_,_,rfl,g,l1,l2⟩:=z5x ["join",a,b] h l;show(p',_,_,rfl,g,z1Q h1 l1,z1Q h2 l2)
 | .first n q,_,_,h,l=>by
  obtain⟨p,y,rfl,h,h2⟩:=h;obtain⟨p',_,_,rfl,g,l1,l2⟩:=z5x ["first"] h l;rw[zgM l1]at g;show(p',_,rfl,g,z1Q h2 l2)
 | .sort a q,_,_,h,l=>by
  obtain⟨p,y,rfl,h,h2⟩:=h;obtain⟨p',_,rfl,g,l2⟩:=zdn ["sort",a] h l;show(p',_,rfl,g,z1Q h2 l2)
 | .group a b n s q,_,_,h,l=>by
  obtain⟨p,y,rfl,h,h2⟩:=h;obtain⟨p',_,rfl,g,l2⟩:=zdn ["group",a,b,n,s] h l;show(p',_,rfl,g,z1Q h2 l2)
theorem wdn:∀(k:Nat) x n,([]:List V)[k]? =some x->([]:List Nat)[k]? =some n->Tz H x n:=λv v v e=>by simp at e
theorem wdc{a:V}{m:Nat}{ns:List Nat}(h:Tz H a m)(r:∀(k:Nat) x n,xs[k]? =some x->ns[k]? =some n->Tz H x n):∀(k:Nat) x n,(a::xs)[k]? =some x->(m::ns)[k]? =some n->Tz H x n
 | 0,x,n,e,f=>by cases e;cases f;show h
 | k+1,x,n,e,f=>r k x n e f
theorem z9D(a:Side):Tz H a.v 1:=by cases a with|nm s=>show .s s|nu i=>show .i i
theorem z9H:∀(ns:List Str),∀(k:Nat) x n,(ns.map V.str)[k]? =some x->(ns.map λv=>1)[k]? =some n->Tz H x n
 | []=>by intro k x n e;cases e
 | a::ns=>wdc (Tz.s a) (z9H ns)
theorem zes:∀{c:Cond} {v:V},zE H c v->∃n,Tz H v n/\n<=4*c.size
 | .less a b,_,h | .same a b,_,h=>by
  obtain⟨p,rfl,h⟩:=h;show(_,.t p _ [1,1,1] h rfl (wdc (.s _) (wdc (z9D a) (wdc (z9D b) wdn))),by simp[Cond.size])
 | .no c,_,h=>by
  obtain⟨p,x,rfl,h,h1⟩:=h;obtain⟨n,w,l⟩:=zes h1;show(_,.t p _ [1,n] h rfl (wdc (.s _) (wdc w wdn)),by simp only[Cond.size,Qj,w0c];lia)
 | .an c d,_,h | .or c d,_,h=>by
  obtain⟨p,x,y,rfl,h,h1,h2⟩:=h;obtain⟨n,w,l⟩:=zes h1;obtain⟨m,v,k⟩:=zes h2;show(_,.t p _ [1,n,m] h rfl (wdc (.s _) (wdc w (wdc v wdn))),by simp only[Cond.size,Qj,w0c];lia)
theorem z1T(T:TabOk th tr):∀{q:Qn} {v:V},QAt H q v->wfQ th q->∃n,Tz H v n/\n<=200*(post q).length
 | .table n,_,h,_=>by
  obtain⟨p,rfl,h⟩:=h;show(_,.t p _ [1,1] h rfl (wdc (.s _) (wdc (.s _) wdn)),by simp[post])
 | .pick c q,_,h,f=>by
  obtain⟨p,x,y,rfl,h,h1,h2⟩:=h;obtain⟨n,w,l⟩:=zes h1;obtain⟨m,v,k⟩:=z1T T h2 f.2.2;have:=f.2.1;show(_,.t p _ [1,n,m] h rfl (wdc (.s _) (wdc w (wdc v wdn))),by simp only[post,Qj,w0c,wm,wJ];lia)
 | .cols ns q,_,h,f=>by
  obtain⟨p,x,y,rfl,h,h1,h2⟩:=h;obtain⟨m,v,k⟩:=z1T T h2 f.2.2;have d:=(jy T (q:= .cols ns q) f).2;have j:ns.length<=100:=d;have o:(ns.map λu=>1).sum=ns.length:=by
   clear h1 f d j
   induction ns with
   | nil=>rfl
   | cons a r e=>rw[qF,Qj,e,wP];lia
  show(_,.t p _ [1,(ns.map λu=>1).sum+1,m] h rfl (wdc (.s _) (wdc (.t x _ _ h1 (by rw[w9,w9]) (z9H ns)) (wdc v wdn))),by simp only[post,Qj,w0c,wm,wJ];lia)
 | .pair q r,_,h,f=>by
  obtain⟨p,x,y,rfl,h,h1,h2⟩:=h;obtain⟨n,w,l⟩:=z1T T h1 f.2.2.1;obtain⟨m,v,k⟩:=z1T T h2 f.2.2.2;show(_,.t p _ [1,n,m] h rfl (wdc (.s _) (wdc w (wdc v wdn))),by simp only[post,Qj,w0c,wm,wJ];lia)
 | .both q r,_,h,f=>by
  obtain⟨p,x,y,rfl,h,h1,h2⟩:=h;obtain⟨n,w,l⟩:=z1T T h1 f.2.1;obtain⟨m,v,k⟩:=z1T T h2 f.2.2;show(_,.t p _ [1,n,m] h rfl (wdc (.s _) (wdc w (wdc v wdn))),by simp only[post,Qj,w0c,wm,wJ];lia)
 | .join a b q r,_,h,f=>by
  obtain⟨p,x,y,rfl,h,h1,h2⟩:=h;obtain⟨n,w,l⟩:=z1T T h1 f.2.2.2.2.1;obtain⟨m,v,k⟩:=z1T T h2 f.2.2.2.2.2;show(_,.t p _ [1,1,1,n,m] h rfl (wdc (.s _) (wdc (.s _) (wdc (.s _) (wdc w (wdc v wdn))))),by simp only[post,Qj,w0c,wm,wJ];lia)
 | .first a q,_,h,f=>by
  obtain⟨p,y,rfl,h,h2⟩:=h;obtain⟨m,v,k⟩:=z1T T h2 f.2;show(_,.t p _ [1,1,m] h rfl (wdc (.s _) (wdc (.i _) (wdc v wdn))),by simp only[post,Qj,w0c,wm,wJ];lia)
 | .sort a q,_,h,f=>by
  obtain⟨p,y,rfl,h,h2⟩:=h;obtain⟨m,v,k⟩:=z1T T h2 f.2;show(_,.t p _ [1,1,m] h rfl (wdc (.s _) (wdc (.s _) (wdc v wdn))),by simp only[post,Qj,w0c,wm,wJ];lia)
 | .group a b n s q,_,h,f=>by
  obtain⟨p,y,rfl,h,h2⟩:=h;obtain⟨m,v,k⟩:=z1T T h2 f.2.2.2;show(_,.t p _ [1,1,1,1,1,m] h rfl (wdc (.s _) (wdc (.s _) (wdc (.s _) (wdc (.s _) (wdc (.s _) (wdc v wdn)))))),by simp only[post,Qj,w0c,wm,wJ];lia)
theorem Tz.at{p:Addr}{xs:List V}{n:Nat}(h:Tz H (.ref p) n)(hp:H p=some (.tup xs)){k:Nat}{x:V}(e:xs[k]? =some x):∃m,Tz H x m/\m<=n:=by
 cases h with
 | t _ f ns h1 h2 c=>
  rw[hp]at h1;cases h1;have b:k<ns.length:=by rw[<-h2];show(wg.mp e).1
  show(ns[k],c k x _ e (we b),Nat.le_succ_of_le ?_);have m:ns[k]∈ns:=wz b;generalize ns[k]=z at m;clear h2 c b
  induction ns with
  | nil=>cases m
  | cons a r d=>
   rw[Qj];rcases wL.mp m with rfl|m
   .lia
   .have:=d m;lia
set_option tactic.hygienic true in
theorem zet(q:Qn):(post q).length<=depth q*zu q:=by
 induction q
 case' pick q i|cols q i|first q i|sort q i=>have:=yn q
 case' group q i=>have:=yn q
 case' pair q r i j|join q r i j|both q r i j=>have:=yn q;have:=yn r;have a:depth q*zu q<=max (depth q) (depth r)*zu q:=QJ _ (Nat.le_max_left _ _);have b:depth r*zu r<=max (depth q) (depth r)*zu r:=QJ _ (Nat.le_max_right _ _)
 all_goals
  simp only[post,depth,zu,wm,wJ,w07,QH,w1l]
  lia
theorem zd3(h:okQ th q)(hd:depth q<=25)(hl:zu q<=12):wt q<=4000:=by
 have h1:=zgl h;have h2:=zet q;have a:depth q*zu q<=25*12:=w0L hd hl
 lia
inductive spForm (K:W.Frag) (vs:List V) (H:Hp) (Q:VK) (E:XK):Prop
 | mk:∀p xs n,vs= [.ref p]->H p=some (.tup xs)->Tz H (.ref p) n->n<=900000->(∀H',zw H H'->Q (.bl true) H')->spForm K vs H Q E
noncomputable def szV(fs:List (V×Nat)):Nat:=(fs.map (·.2)).sum
theorem z6G(a b:List (V×Nat)):szV (a++b)=szV a+szV b:=by unfold szV;rw[wF,w0Z]
theorem ze6{fs:List (V×Nat)}(h:∀g∈fs,1<=g.2):fs.length<=szV fs:=by
 have:=z33 (ns:=fs.map (·.2)) λn m=>by
  obtain⟨g,a,rfl⟩:=qx.mp m;show h g a
 rwa [w9]at this
theorem z1D:FnScope ["_law_question","_law_todo","_law_part"] ["_law_question"] (zi z2j):=by done
theorem z74(F:Fun K "_law_form" "_law_form" z2j f fd)(T:Txt K mg)(a:Kn P w K mg base 1 "_law_whole" ["_law_found"] spWhole):FnOk P w K mg base CX0 2 f fd ["_law_question"] (spForm K):=by
 clear z1D vs H Q E h F;obtain⟨p,xs,n,rfl,hp,M,hsz,q⟩:=h;intro aa A outer sh hr;have O:=z1P hr;show(_,(zc (seT 1 z1D (zC (za v0 zb)))
  (zc (z4f (cmT (z4T O) v1 (zC zb))
   (zc (seT 2 z1D (z26 wO Qz QA z2b v1))
   (zf (zB (zX (zF zI rfl T.isinstance wI (za v2 (za (zY (v:= .ty "tuple") rfl T.tuple qZ rfl) zb))))
    (zf (j7 (kg wO PySem.F.slot_list_extend PySem.F.type_list_extend z8t v1 (za v2 zb))))
    (zf (zB (PW.pt (z1L (jJ (zX (zF zI rfl T.isinstance wI (za v2 (za (zY (v:= .ty "str") rfl T.str qP rfl) zb))))) (z1E (jJ (zX (zS a hr.m (za v2 zb)))))))
     (zf (zp jv))
     zt))))))
  (zf (zp (zF zI rfl T.isinstance wI (za v0 (za (zY (v:= .ty "tuple") rfl T.tuple qZ rfl) zb))))))),?_)
 generalize hK0:K=K1
 revert K1
 show jd #[] ?_;show !((yG rfl),λtp o=>?_);show z27 ?_;dsimp only;show z3A ?_;show yV (λm σ H'=>∃(fs:List (V×Nat)) (o2:Option V),σ= [some (.ref p),some (.ref tp),o2]/\zw H H'/\H' tp=some (.lst (fs.map (·.1)))/\(∀g∈fs,Tz H g.1 g.2)/\szV fs<=900000/\m=szV fs) (szV [(.ref p,n)])
  ([(.ref p,n)],none,rfl,zz o _,zh,by simpa using M,by simpa [szV]using hsz,rfl) ?_
 rintro m σ X ⟨fs,o2,rfl,L,J,G,hz,rfl⟩;show !?_;clear ep hep H4 n4 x4;have l:=n4 _ _ J;have r:=L.trans n4;show(tp,ep,_,rfl,rfl,SqL.of l,SqL.of x4,!?_);by_cases ai:fs= []
 .subst ai;show ifF (by rfl) ?_;show !(_,_,_,!(TyOf.tup (r _ _ hp),jr,q H4 r))
 obtain⟨gs,⟨b,c⟩,rfl⟩:=z2p ai;show ifT (by simp) ?_;show(_,λσ' H' z=>z,?_);have I:Tz H b c:=G (b,c) (by simp);have u:∀g∈gs,Tz H g.1 g.2:=λg h=>G g (by simp[h])
 have U:((gs++[Prod.mk b c]).map (·.1))=gs.map (·.1)++[b]:=by rw[wF];rfl
 rw[U]at l;have y:szV (gs++[(b,c)])=szV gs+c:=by rw[z6G];simp[szV]
 rw[y]at hz;show !(.inl (rfl,_,SqL.of l),tp,~~~(l,z16 _ _,?_));rw[QI];have e:zw H (upd H4 tp (.lst (gs.map (·.1)))):=r.put o;have j:upd H4 tp (.lst (gs.map (·.1))) tp=some (.lst (gs.map (·.1))):=zh;generalize upd H4 tp (.lst (gs.map (·.1)))=H5 at e j ⊢;have Z:=I.pos;have B:∃x,x<szV (gs++[(b,c)])/\∃(fs:List (V×Nat)) (o2:Option V),[some (V.ref p),some (V.ref tp),some b]= [some (.ref p),some (.ref tp),o2]/\zw H H5/\H5 tp=some (.lst (fs.map (·.1)))/\(∀g∈fs,Tz H g.1 g.2)/\szV fs<=900000/\x=szV fs:=
  (szV gs,∅,gs,_,rfl,e,j,u,∅,rfl)
 cases I with
 | s z=>
  show !(_,_,_,!(TyOf.str z,z08,!?_));show ifF rfl ?_;show !(_,_,_,!(TyOf.str z,jr,!?_));show ifF rfl ?_;show B
 | i z=>
  show !(_,_,_,!(TyOf.int z,z05,!?_));show ifF rfl ?_;show !(_,_,_,!(TyOf.int z,kh,!?_));show ifT rfl ?_;show !(_,_,rfl,.inl (_,rfl,rfl),!?_);show ifF rfl ?_;show B
 | t N ys ns D ly C=>
  show !(_,_,_,!(TyOf.tup (e _ _ D),jr,!?_));show ifT rfl ?_;have Y:ns.length<=ns.sum:=z33 λn R=>by
   obtain⟨k,d⟩:=w0l R;have S:k<ys.length:=by rw[ly];show(wg.mp d).1
   show(C k _ n (we S) d).pos
  have l1:=ze6 λg h=>(u g h).pos
  show !(.inl (rfl,_,SqL.of j),!(tp,N,_,_,rfl,rfl,j,e _ _ D,jb (by rw[w9];lia),?_));have zs:szV (ys.zip ns)=ns.sum:=by unfold szV;rw[List.map_snd_zip ∅]
  show(szV (gs++ys.zip ns),by rw[y,z6G,zs];lia,gs++ys.zip ns,_,rfl,e.put o,(show _=some (HO.lst _)from zh).trans (by rw[wF,List.map_fst_zip ∅]),λg mY=>?_,by rw[z6G,zs];lia,rfl);rcases wE.mp mY with mY|mY
  .exact u g mY
  .obtain⟨k,d⟩:=w0l mY;rw[List.getElem?_zip_eq_some]at d;show C k _ _ d.1 d.2
inductive spUnturned (K:W.Frag) (vs:List V) (H:Hp) (Q:VK) (E:XK):Prop
 | mk:∀x y m n,vs= [x,y]->Tz H x m->Tz H y n->n<=900000->(∀b H',zw H H'->(b=true↔Lk H x y)->Q (.bl b) H')->spUnturned K vs H Q E
noncomputable def lt2:List String:= ["list","tuple"]
noncomputable def si2:List String:= ["str","int"]
section
variable{x:V}{t t':String}
theorem z4z(h:Ty3 H x t)(e:zw H H'):Ty3 H' x t:=by
 cases h with
 | int i=>show .int i
 | str s=>show .str s
 | tup h=>show .tup (e _ _ h)
theorem z5T(h:Ty3 H x t):TyOf K H x (.type t):=by
 cases h with
 | int i=>show .int i
 | str s=>show .str s
 | tup h=>show .tup h
theorem za2(h:Ty3 H x t):PySem.W.kitOne K (.type t) (.type "bool")=some false:=by cases h<;>kernel_rfl
theorem z9m(h:Ty3 H x t):PySem.W.kitOne K (.type t) (.type "list")=some false:=by cases h<;>kernel_rfl
theorem zbO(h:Ty3 H x t):PySem.W.kitOne K (.type t) (.type "str")=some (decide (t="str")):=by cases h<;>kernel_rfl
theorem zey(h:Ty3 H x t):PySem.W.kitAny K (.type t) (lt2.map Value.type)=some (decide (t="tuple")):=by cases h<;>kernel_rfl
theorem zg9(h:Ty3 H x t):PySem.W.kitAny K (.type t) (si2.map Value.type)=some (not (decide (t="tuple"))):=by cases h<;>kernel_rfl
theorem zcn(h:Ty3 H x t):decide (x=V.non)=false:=by cases h<;>rfl
theorem zdE(h:Ty3 H x t)(g:Ty3 H y t')(n:t≠"tuple")(a:t'≠"tuple")(e:decide (t="str")=decide (t'="str")):zfy x y=true:=by
 cases h with
 | tup=>show absurd rfl n
 | int i=>
  cases g with
  | tup=>show absurd rfl a
  | int j=>rfl
  | str s=>show absurd e ()
 | str s=>
  cases g with
  | tup=>show absurd rfl a
  | int j=>show absurd e ()
  | str u=>rfl
theorem zcl(h:Ty3 H x t)(e:t="tuple"):∃p,x= .ref p:=by
 cases h with
 | int i=>show absurd e ()
 | str s=>show absurd e ()
 | tup=>show(_,rfl)
theorem Tz.ty{n:Nat}(h:Tz H x n):∃t,Ty3 H x t:=by
 cases h with
 | s z=>show(_,.str z)
 | i z=>show(_,.int z)
 | t p xs ns h=>show(_,.tup h)
theorem zce(l:Lk H x y)(h:Ty3 H x t)(g:Ty3 H y t'):t=t':=by cases l<;>cases h<;>cases g<;>rfl
theorem z9E(h:Ty3 H x t)(n:t≠"tuple"):Lk H x y↔x=y:=by
 cases h with
 | tup=>show absurd rfl n
 | int i=>show(λl=>by cases l;rfl,λe=>e ▸ .i i)
 | str s=>show(λl=>by cases l;rfl,λe=>e ▸ .s s)
end
theorem yi:FnScope ["_law_found","_law_due","_law_todo","_law_left","_law_right","_law_k"] ["_law_found","_law_due"] (zi z0p):=by done
theorem z3K(F:Fun K "_law_unturned" "_law_unturned" z0p f fd)(T:Txt K mg):FnOk P w K mg base CX0 1 f fd ["_law_found","_law_due"] (spUnturned K):=by
 clear yi vs H Q E h F;obtain⟨x,y,m,n,rfl,hx,hy,hsz,q⟩:=h;intro aa A outer sh hr;have hu:=z1P hr;show(_,(zc (seT 2 yi (zC (zQ (zD (za v0 (za v1 zb))) zb)))
  (zc (z4f (cmT (z4T hu) v2 (zC zb))
   (zc (z6x (z26 wO Qz QA z2b v2) (z8h rfl (z1p (gnM 3 yi) (z1p (gnM 4 yi) z6k))))
   (zf (zB (zX (zF (z1G (K:=K) rfl) rfl T.isinstance wI (za v4 (zQ (zD (za (zY (v:= .ty "list") rfl T.list qE rfl) (za (zY (v:= .ty "tuple") rfl T.tuple qZ rfl) zb))) zb))))
    (zc (zB (cmT z0R (zF zI rfl T.isinstance wI (za v3 (za (zY (v:= .ty "list") rfl T.list qE rfl) zb))) (zF zI rfl T.isinstance wI (za v4 (za (zY (v:= .ty "list") rfl T.list qE rfl) zb))))
     (zf (zp jv))
     zt)
    (zc (zB (PW.pt (z37 (jJ (zX (zF (z1G (K:=K) rfl) rfl T.isinstance wI (za v3 (zQ (zD (za (zY (v:= .ty "list") rfl T.list qE rfl) (za (zY (v:= .ty "tuple") rfl T.tuple qZ rfl) zb))) zb))))) (z28 (cmT z0R (leN T.len (za v3 zb)) (leN T.len (za v4 zb))))))
     (zf (zp jv))
     zt)
    (zf (foR (jU rfl T.range (zK (leN T.len (za v4 zb)) zb)) (gnM 5 yi)
     (zf (j7 (apP v2 (zQ (zD (zl (ixT v3 v5) (zl (ixT v4 v5) zb))) zb))))))))
    (zf (zB (z1u (cmT z8P v3 kC) (cmT z8P v4 kC))
     (zf (zB (z1u (cmT z3h v3 kC) (cmT z3h v4 kC))
      (zf (zp jv))
      zt))
     (zf (zB (cmT z0R (zF zI rfl T.isinstance wI (za v3 (za (zY (v:= .ty "bool") rfl T.bool PyProof.Rows.boot_bool rfl) zb))) (zF zI rfl T.isinstance wI (za v4 (za (zY (v:= .ty "bool") rfl T.bool PyProof.Rows.boot_bool rfl) zb))))
      (zf (zp jv))
      (zf (zB (cmT z0R (zF zI rfl T.isinstance wI (za v3 (za (zY (v:= .ty "str") rfl T.str qP rfl) zb))) (zF zI rfl T.isinstance wI (za v4 (za (zY (v:= .ty "str") rfl T.str qP rfl) zb))))
       (zf (zp jv))
       (zf (zB (PW.pt (z37 (jJ (zX (zF (z1G (K:=K) rfl) rfl T.isinstance wI (za v3 (zQ (zD (za (zY (v:= .ty "str") rfl T.str qP rfl) (za (zY (v:= .ty "int") rfl T.int w1k rfl) zb))) zb))))) (z28 (cmT z0R v3 v4))))
        (zf (zp jv))
        zt))))))))))))
  (zf (zp jv)))),?_)
 generalize hK0:K=K1
 revert K1
 show jd #[] ?_;show !(!?_);clear pa ff H1 n1 x1;show((yG rfl),λtp aw=>?_);have gZ:H tp=none:=n1.free aw;clear tp aw H2 n2 x2 tp;have s2:=n1.trans n2;show yV (λm σ H'=>∃(its:List It4) (o3 o4 o5:Option V),σ= [some x,some y,some (.ref tp),o3,o4,o5]/\zw H H'/\H' tp=some (.lst (its.map λit=>V.ref it.1))/\(∀it∈its,z3X H H' it)/\sz4 its<=900000/\(Lk H x y↔∀it∈its,Lk H it.2.1 it.2.2.1)/\m=sz4 its) (sz4 [(pa,x,y,n)])
  ([(pa,x,y,n)],none,none,none,rfl,s2,x2,λit m=>by rw[ww.mp m];show(n2 _ _ x1,(_,hx),hy),by rw[z0W];show hsz,by simp,rfl) ?_
 rintro m σ H3 ⟨its,o3,o4,o5,rfl,s3,h3,dZ,hz,B,rfl⟩;show !?_;clear ep hep H4 n4 x4;have S:=n4 _ _ h3;have s4:=s3.trans n4;show(tp,ep,_,rfl,rfl,SqL.of S,SqL.of x4,!?_);by_cases ai:its= []
 .subst ai;show ifF (by rfl) ?_;show q true H4 s4 (λg=>B.mpr (by simp),λg=>rfl)
 obtain⟨gs,⟨ga,j,d,L⟩,rfl⟩:=z2p ai;show ifT (by simp) ?_;show z7B λD hN hR=>?_
 rw[yZ,z0W]at hz;replace B:=za7 B;have e0:((gs++[Prod.mk ga (Prod.mk j (Prod.mk d L))]).map λit=>V.ref it.1)=(gs.map λit=>V.ref it.1)++[V.ref ga]:=by rw[wF];rfl
 rw[e0]at S;show !(.inl (rfl,_,SqL.of S),tp,~~~(S,z16 _ _,?_));rw[QI];have tm:=z1A (o:= .lst (gs.map λit=>V.ref it.1)) S;have cW:∀it∈gs++[(ga,j,d,L)],z3X H (upd H4 tp (.lst (gs.map λit=>V.ref it.1))) it:=λit mm=>((dZ it mm).mono λb xs z=>n4 _ _ z).mono tm
 have s5:zw H (upd H4 tp (.lst (gs.map λit=>V.ref it.1))):=s4.put gZ;have h5:upd H4 tp (.lst (gs.map λit=>V.ref it.1)) tp=some (.lst (gs.map λit=>V.ref it.1)):=zh;generalize upd H4 tp (.lst (gs.map λit=>V.ref it.1))=H5 at cW s5 h5 ⊢;obtain⟨gp,⟨gm,fj⟩,R⟩:z3X H H5 (ga,j,d,L):=cW _ (wC _ (ww.mpr rfl));replace gp:H5 ga=some (.tup [j,d]):=gp;replace fj:Tz H j gm:=fj;replace R:Tz H d L:=R;replace B:Lk H x y↔Lk H j d/\∀it∈gs,Lk H it.2.1 it.2.2.1:=B
 have ck:∀it∈gs,z3X H H5 it:=λit mm=>cW it (q5 _ mm)
 have lz:sz4 (gs++[(ga,j,d,L)])=sz4 gs+L:=by rw[yZ,z0W]
 replace hz:sz4 gs+L<=900000:=hz;have mW:=R.pos;show(ga,_,rfl,SqT.of gp,rfl,_,_,rfl,_,_,rfl,rfl,?_);have no:∀{G:Hp},zw H G->(Lk H j d->False)->D.rt (.bl false) G:=λs z=>hR _ _ (q false _ s (nofun,λl=>(z (B.mp l).1).elim))
 have on:∀{G:Hp},zw H5 G->Lk H j d->D.nx [some x,some y,some (V.ref tp),some j,some d,o5] G:=
  λs l=>hN _ _ (sz4 gs,∅,gs,_,_,_,rfl,s5.trans s,s _ _ h5,λit m=>(ck it m).mono λb xs z=>s _ _ z,∅,B.trans (λz=>z.2,λz=>(l,z)),rfl)
 obtain⟨tx,r⟩:=fj.ty;obtain⟨ty,J⟩:=R.ty;show !?_;clear t1 ht1 G1 nG1 xG1;have I:=s5.trans nG1;have u:=z4z r I;have C:=z4z J I;show(_,t1,lt2,_,_,rfl,xG1,C,(zey C),!?_);by_cases ht:ty="tuple"
 rotate_left
 .refine ifF (wK ht) ?_;show !(rfl,!(_,(!(rfl,!(rfl,rfl))),?_));show ifF (by rw[(zcn r),(zcn J)];rfl) ?_;show !(_,_,_,!((z5T u),(za2 u),!(_,_,_,!((z5T C),(za2 C),rfl,!?_))));show ifF rfl ?_;show !(_,_,_,!((z5T u),(zbO u),!(_,_,_,!((z5T C),(zbO C),rfl,!?_))));by_cases hs:decide (tx="str")=decide (ty="str")
  rotate_left
  .refine ifT (by simpa using hs) ?_;show no I λl=>hs (by rw[zce l r J])
  show ifF (by rw[hs];simp) ?_;show !?_;clear t2 mE G2 nG2 xG2;have U:=z4z u nG2;show(_,t2,si2,_,_,rfl,xG2,U,(zg9 U),!?_);by_cases hl:tx="tuple"
  .refine ifT (by rw[wN hl];rfl) ?_;show no (I.trans nG2) λl=>ht ((zce l r J) ▸ hl)
  show ifF (by rw[wK hl];rfl) ?_;show !(!(zdE r J hl ht hs,!?_));by_cases e:j=d
  .refine ifF (by rw[wN e];rfl) ?_;show on (nG1.trans nG2) ((z9E r hl).mpr e)
  .refine ifT (by rw[wK e];rfl) ?_;show no (I.trans nG2) λl=>e ((z9E r hl).mp l)
 show ifT (wN ht) ?_;show !(_,_,_,!((z5T u),(z9m u),!(_,_,_,!((z5T C),(z9m C),rfl,!?_))));show ifF rfl ?_;show !?_;clear t2 mE G2 nG2 xG2;have U:=z4z u nG2;show(_,t2,lt2,_,_,rfl,xG2,U,(zey U),!?_);by_cases hl:tx="tuple"
 rotate_left
 .refine ifT (by rw[wK hl];rfl) ?_;show no (I.trans nG2) λl=>hl ((zce l r J).trans ht)
 show ifF (by rw[wN hl];rfl) ?_;obtain⟨_,M⟩:=zcl J ht;obtain⟨_,xc⟩:=zcl r hl;cases R with
 | s=>cases M
 | i=>cases M
 | t yp ys ns N ly bq=>
  cases fj with
  | s=>cases xc
  | i=>cases xc
  | t xp xs ms Y lx aM=>
   have O:=I.trans nG2;have oP:=nG1.trans nG2;show !(xp,!(.inr (SqT.of (O _ _ Y)),!(yp,!(.inr (SqT.of (O _ _ N)),rfl,!?_))));by_cases el:xs.length=ys.length
   rotate_left
   .refine ifT (by simp;lia) ?_;show no O λl=>el (z9d Y N l).1
   show ifF (by rw[el];simp) ?_;have xb:ns.length<=ns.sum:=z33 λn mm=>by
    obtain⟨k,p⟩:=w0l mm;have br:k<ys.length:=by rw[ly];show(wg.mp p).1
    show(bq k _ n (we br) p).pos
   have tE:∀i,(ns.take i).sum<=ns.sum:=λi=>by
    have:=Qd List.sum (List.take_append_drop i ns);rw[w0Z]at this
    lia
   have hL:Lk H (.ref xp) (.ref yp)↔∀(k:Nat) a b,xs[k]? =some a->ys[k]? =some b->Lk H a b:=(λl=>(z9d Y N l).2,λl=> .t _ _ _ _ Y N el l)
   show !(yp,!(.inr (SqT.of (O _ _ N)),!(∅,∅,z54 (lo:=0) (n:=ys.length) (λi σ H'=>∃(c:List It4) (o5:Option V),σ= [some x,some y,some (.ref tp),some (.ref xp),some (.ref yp),o5]/\zw H H'/\H' tp=some (.lst ((gs++c).map λit=>V.ref it.1))/\(∀it∈gs++c,z3X H H' it)/\c.length=i/\sz4 c=(ns.take i).sum/\
    ∀(k:Nat) it,c[k]? =some it->xs[k]? =some it.2.1/\ys[k]? =some it.2.2.1) ([],o5,rfl,O,by rw[Q3];show oP _ _ h5,λit m=>(ck it (by simpa using m)).mono λb xs z=>oP _ _ z,rfl,rfl,λg g z=>by cases z) ?_ ?_)))
   .rintro i σ H6 D2 hM _ hi ⟨c,o5,rfl,X,h6,bW,lc,i6,Z⟩;have ix:i<xs.length:=by lia
    have ins:i<ns.length:=by lia
    have ex:=we ix;have M:=we hi;have en:=we ins;have dF:atI xs (0+(i:Int))=some xs[i]:=by rw[w0q];show zR ex
    have tG:atI ys (0+(i:Int))=some ys[i]:=by rw[w0q];show zR M
    obtain⟨mi,tH⟩:∃mi,ms[i]? =some mi:=(_,we ∅)
    have wx:=aM i _ _ ex tH;have wy:=bq i _ _ M en;show !(.inl (rfl,_,SqL.of h6),!(!(zg (X _ _ Y) dF (!(!(zg (X _ _ N) tG ?_))))));clear np ag H7 n7 x7;have h7:=n7 _ _ h6;have mX:=z1A (o:= .lst (((gs++c).map λit=>V.ref it.1)++[V.ref np])) h7;have oO:∀b ws,H6 b=some (.tup ws)->upd H7 tp (.lst (((gs++c).map λit=>V.ref it.1)++[V.ref np])) b=some (.tup ws):=λb ws z=>mX b ws (n7 _ _ z)
    have BB:=tE i;have l1:=z6U (its:=gs++c) λit mm=>(bW it mm).2.2.pos
    rw[yZ]at l1;show(tp,~~~(h7,zG (by rw[w9];lia),?_));show hM _ _ (c++[(np,xs[i],ys[i],ns[i])],_,rfl,(X.trans n7).put gZ,by rw[zh];simp,λit mm=>?_,by rw[wm,lc];rfl,?_,λk it e=>?_)
    .rw [<-QE]at mm;rcases wE.mp mm with mm|mm
     .exact(bW it mm).mono oO
     .rw [ww.mp mm];show(mX _ _ x7,(_,wx),wy)
    .rw [yZ,z0W,i6,wR,en,w0Z];simp
    .by_cases p:k<c.length
     .rw [qY p]at e;show Z k it e
     .have dA:=(wg.mp e).1;rw[wm,wJ]at dA;have br:k=i:=by lia
      subst br;rw[qW ∅,lc,w1V]at e;cases e;show(ex,M)
   .rintro σ H6 ⟨c,o5,rfl,X,h6,bW,lc,i6,Z⟩;rw[ly,qf]at i6;show hN _ _ (sz4 (gs++c),?_,gs++c,_,_,_,rfl,X,h6,bW,by rw[yZ];lia,?_,rfl)
    .rw [lz,yZ]
     lia
    .rw [B,hL];constructor
     .rintro⟨z1,z2⟩ it mm;rcases wE.mp mm with mm|mm
      .exact z2 it mm
      .obtain⟨k,p⟩:=w0l mm;show z1 k _ _ (Z k it p).1 (Z k it p).2
     .intro z;show(λk a b ha hb=>?_,λit mm=>z it (q5 _ mm));have p:k<c.length:=by rw[lc];show(wg.mp hb).1
      have e:=we p;obtain⟨e1,e2⟩:=Z k _ e;rw[ha]at e1;rw[hb]at e2;cases e1;cases e2;show z _ (wC _ (wz p))
theorem zfd(T:TabOk th tr):∀n∈tabs,∀s∈th n,s∈z0q 26 3:=by
 have hl:∀s∈je,s∈z0q 26 3:=by decide
 have ht:∀s∈th "t",s∈z0q 26 3:=by
  obtain⟨m,_,_,e⟩:=T.t;rw[e];show λs hs=>hl s (QG hs)
 intro n hn;have a:n="t"\/n="tuvtuvtuvw"\/n="tuvtuvtuvx"\/n="tuvz":=by
  unfold tabs at hn
  simpa using hn
 rcases a with rfl|rfl|rfl|rfl
 .exact ht
 .rw [T.w];decide
 .rw [T.x];decide
 .rw [T.z];show ht
theorem z9n:∀g∈signs,(("n":Str)++g)∈z0q 26 3/\(("s":Str)++g)∈z0q 26 3:=by decide
theorem yX(T:TabOk th tr):∀{q:Qn},okQ th q->∀s∈ze th q,s∈z0q 26 3
 | .table n,h=>zfd T n h
 | .pick _ q,h=>yX T (q:=q) h.2.2
 | .cols ns q,h=>λs hs=>yX T (q:=q) h.2.2.2 s (h.2.2.1 s hs)
 | .pair q r,h=>λs hs=>by
  rcases wE.mp hs with hs|hs
  .exact yX T (q:=q) h.2.1 s hs
  .exact yX T (q:=r) h.2.2 s hs
 | .join a b q r,h=>λs hs=>by
  rcases wE.mp hs with hs|hs
  .exact yX T (q:=q) h.2.2.2.1 s hs
  .exact yX T (q:=r) h.2.2.2.2 s hs
 | .both q r,h=>yX T (q:=q) h.2.1
 | .first _ q,h=>yX T (q:=q) h.2
 | .group a b n s q,h=>λx e=>by
  obtain⟨ha,_,⟨g,d,rfl,rfl⟩,_,_,hq⟩:=h;have c:x∈ [a,("n":Str)++g,("s":Str)++g]:=e;simp only[wL,qA,QQ]at c;rcases c with rfl|rfl|rfl
  .exact yX T (q:=q) hq _ ha
  .exact(z9n g d).1
  .exact(z9n g d).2
 | .sort _ q,h=>yX T (q:=q) h.2
theorem zcJ:∀i∈z0t,0<=i:=by decide
theorem zdj:∀g∈signs,(("n":Str)++g)≠(("s":Str)++g):=by decide
def z7i(T:TabOk th tr)(hq:okQ th q)(hr:okQ th r)(nd:∀n∈ze th q,n∉ze th r):(ze th q++ze th r).length<=100:=
 wY (kf (w04.mpr ((jz T hq).2,(jz T hr).2,λa ha b c e=>nd a ha (e ▸ c))) λx d=>(wE.mp d).elim (yX T hq x) (yX T hr x)) z4E
theorem z1O(T:TabOk th tr):∀{q:Qn},okQ th q->wfQ th q
 | .table n,h=>h
 | .pick c q,h=>(h.1.ok,wY h.2.1 (),z1O T h.2.2)
 | .cols ns q,h=>(h.2.1,h.2.2.1,z1O T h.2.2.2)
 | .pair q r,h=>(h.1,z7i T h.2.1 h.2.2 h.1,z1O T h.2.1,z1O T h.2.2)
 | .join a b q r,h=>(h.1,h.2.1,h.2.2.1,z7i T h.2.2.2.1 h.2.2.2.2 h.2.2.1,z1O T h.2.2.2.1,z1O T h.2.2.2.2)
 | .both q r,h=>(h.1,z1O T h.2.1,z1O T h.2.2)
 | .first n q,h=>(zcJ n h.1,z1O T h.2)
 | .group a b n s q,h=>by
  obtain⟨ha,d,⟨g,e,rfl,rfl⟩,h1,h2,hq⟩:=h;show(ha,d,?_,z1O T hq);have:=zdj g e;simp[h1,h2,this]
 | .sort a q,h=>(h.1,z1O T h.2)
theorem TabAt.ev{v:V}(h:TabAt th tr H v n)(k:Ev th C H H'):TabAt th tr H' v n:=by
 obtain⟨p,hp,rp,rs,rfl,h1,b,a,c⟩:=h;show(p,hp,rp,rs,rfl,k.tup h1,k.lst b,(k.lst a.1,λr m=>((a.2 r m).1,k.lst (a.2 r m).2)),c)
theorem FourAt.ev(h:FourAt th tr H p)(k:Ev th C H H'):FourAt th tr H' p:=by
 obtain⟨v0,v1,v2,v3,h0,a,b,c,d⟩:=h;show(v0,v1,v2,v3,k.lst h0,a.ev k,b.ev k,c.ev k,d.ev k)
theorem ARes.eqv{v:V}(e:Eqv th tr q q')(h:ARes th tr q' v H):ARes th tr q v H:=by
 obtain⟨p,hp,rp,rs,rfl,h1,h2,a,b⟩:=h;show(p,hp,rp,rs,rfl,h1,by rw[<-e.h];show h2,a,by rw[<-e.r];show b)
theorem Tns.first{p:Qn}(h:Tns th H us p q):∃v,us[0]? =some v/\QAt H p v:=by
 induction h with
 | one q v h=>show(v,rfl,h)
 | more us p q r v t o h a=>
  obtain⟨u,e,b⟩:=a;show(u,by rw[qY (wg.mp e).1];show e,b)
theorem Tns.at(T:TabOk th tr){us:List V}{p q:Qn}(h:Tns th H us p q)(wf:wfQ th p):∀k,k+1<us.length->∃a b x y,us[k]? =some x/\us[k+1]? =some y/\QAt H a x/\QAt H b y/\a≠b/\Eqv th tr p a/\Eqv th tr p b/\wt a<=wt p/\wt b<=wt p:=by
 induction h with
 | one q v h=>show λk c=>absurd c (by simp)
 | more us p q r v t o h i=>
  intro k c;rw[wm,wJ]at c;by_cases hl:k+1<us.length
  .obtain⟨a,b,x,y,h1,h2,f⟩:=i wf k hl;show(a,b,x,y,by rw[qY ∅];show h1,by rw[qY hl];show h2,f)
  .obtain⟨e,_,w⟩:=t.eqv T wf;have d:=o.dn T e.wf;obtain⟨vs,u,rfl,j⟩:=t.last;rw[wm,wJ]at c hl;have l:k=vs.length:=by lia
   subst l;show(q,r,u,v,by rw[QE,qW (wA _),w1V];rfl,by rw[qW (by simp),wm,wJ,w1V];rfl,j,h,λz=>by have:=d.nu;rw[z]at this;show QX _ this,e,e.trans (o.eqv T e.wf),w,wY d.wt w)
inductive spLaw (K:W.Frag) (T1 T2 T3 T4:Addr) (vs:List V) (H:Hp) (Q:VK) (E:XK):Prop
 | mk:∀a (ns:List Int),vs= [.ref a]->SqL K H a (ns.map V.int)->ns.length<=63->jN H T1 zct zcL->jN H T2 zch zbJ->jN H T3 z4F zbX->jN H T4 zcu zbT->(∀H',Q (.bl true) H')->spLaw K T1 T2 T3 T4 vs H Q E
theorem z21:FnScope ["_law_script","_law_tables","_law_state","_law_found","_law_step","_law_spot","_law_told"] ["_law_script"] (zi z5Y):=by done
theorem zff(F:Fun K "law" "law" z5Y f fd)(T:Txt K mg)(d12:T1≠T2)(d13:T1≠T3)(d23:T2≠T3)(tJ:T4≠T1)(tK:T4≠T2)(tM:T4≠T3)(B:Kn P w K mg base 1 "_law_wide" ["_law_script","_law_few","_law_bound"] (spWide K))(s:Kn P w K mg base 1 "_law_stocked" ["_law_cells","_law_more"] (spStocked K))(u:Kn P w K mg base 10 "_law_grown" ["_law_cells","_law_tables"] (spGrown K))
  (l:Kn P w K mg base 1 "_law_again" ["_law_tables"] (spAgain K)) (I:Kn P w K mg base 12 "turnings" ["tables","question"] (spTurnings C T1 T2 T3 T4)) (G:Kn P w K mg base 2 "_law_like" ["_law_found","_law_due"] (spLike K)) (c:Kn P w K mg base 2 "_law_form" ["_law_question"] (spForm K)) (o:Kn P w K mg base 11 "plain_answer" ["tables","question"] (spPlain K T1 T2 T3)) (t:Kn P w K mg base 4 "_law_answers" ["_law_found","_law_heads","_law_rows"] (spAnswers K)) (n:Kn P w K mg base 1 "_law_unturned" ["_law_found","_law_due"] (spUnturned K)):FnOk P w K mg base CX0 13 f fd ["_law_script"] (spLaw K T1 T2 T3 T4):=by
 clear z21 vs H Q E h F;obtain⟨a,ns,rfl,hS,hn,L1,ac,L3,L4,q⟩:=h;have hL:Ls T1 T2 T3 H:=(L1,ac,L3,d12,d13,d23);intro aa A outer sh hr;have hu:=z1P hr;show(_,(zc (seT 1 z21 (zS s hr.m (zl (jt yI v0 (jI zd) (jI zd)) (zK (zS B hr.m (za v0 (zr zd (zr zd zb)))) zb))))
  (zc (seT 2 z21 (zS u hr.m (zl (jt yI v0 jW (jI zd)) (za v1 zb))))
  (zc (seT 3 z21 (zS I hr.m (zK (zS l hr.m (za v1 zb)) (zl (ixT v2 zd) zb))))
  (zc (zB (PW.pt (z37 (jJ (zX (zF zI rfl T.isinstance wI (za v3 (za (zY (v:= .ty "list") rfl T.list qE rfl) zb))))) (z37 (cmT (z53 hu) v3 (zC zb)) (z28 (jJ (zX (zS G hr.m (zl (ixL v3 zd) (zl (ixT v2 zd) zb)))))))))
   (zf (zp jv))
   zt)
  (zc (seT 4 z21 (zo yw zd (zo jZ (leN T.len (za v3 zb)) zd)))
  (zc (seT 5 z21 (zo z19 (leN T.len (za v3 zb)) zd))
  (zc (z4f (cmT z5Q v5 zd)
   (zc (zB (jJ (zX (zS c hr.m (zl (ixL v3 v5) zb))))
    (zf (zp jv))
    zt)
   (zc (seT 6 z21 (zS o hr.m (zK (zS l hr.m (za v1 zb)) (zl (ixL v3 v5) zb))))
   (zc (zB (jJ (zX (zS t hr.m (za (pv 6) (zl (ixT v2 zd) (zl (ixT v2 zd) zb))))))
    (zf (zp jv))
    zt)
   (zc (zB (PW.pt (z37 (jJ (zX (zS c hr.m (zl (ixL v3 v5) zb)))) (z28 (jJ (zX (zS c hr.m (zl (ixL v3 (zo z19 v5 zd)) zb)))))))
    (zf (zp jv))
    zt)
   (zc (zB (zX (zS n hr.m (zl (ixL v3 v5) (zl (ixL v3 (zo z19 v5 zd)) zb))))
    (zf (zp jv))
    zt)
   (zf (seT 5 z21 (zo z19 v5 v4)))))))))
  (zf (zp jv))))))))),?_)
 dsimp only[z3k,Cx.nox,Cx.wish];have tN:∀k:Nat,HT.sIx ns.length ns.length (some (k:Int))=min k ns.length/\HT.sIx ns.length 0 (some (k:Int))=min k ns.length:=λk=>by
  have hk:¬((k:Int)<0):=by lia
  show(?_,?_) <;>
  .show(if(k:Int)<0 then((k:Int)+(ns.length:Int)).toNat else min (k:Int).toNat ns.length)=_
   rw[wW hk]
   rfl
 show !(!(!(a,!(hS,λl2 bx=>?_))));rw[z2q];clear l2 bx H2 n2 x2 l2;show !(a,ns,8,180,rfl,n2.seq hS,hn,(),(),λm H3 n3 m0 m1=>?_);have c1:((ns.drop (HT.sIx ns.length 0 none)).take (HT.sIx ns.length ns.length (some 10)-HT.sIx ns.length 0 none)).length<=10:=by
  rw[wV,show HT.sIx ns.length ns.length (some 10)=_ from(tN 10).1]
  lia
 have c2:((ns.drop (HT.sIx ns.length 0 (some 10))).take (HT.sIx ns.length ns.length (some 19)-HT.sIx ns.length 0 (some 10))).length<=18:=by
  rw[wV,show HT.sIx ns.length ns.length (some 19)=_ from(tN 19).1,show HT.sIx ns.length 0 (some 10)=_ from(tN 10).2]
  lia
 show(l2,_,m,rfl,SqL.of (n3 _ _ x2),c2,m0,∅,λp th tr H4 n4 d f4=>?_);have xf:=n2.trans (n3.trans n4);show !(!(a,!(xf.seq hS,λl1 iL=>?_)));rw[z2q];clear l1 iL H5 n5 x5 l1;show !(l1,p,_,th,tr,rfl,SqL.of x5,∅,d,f4.same n5,λv' J used twice H6 n6 BC X hu ht=>?_);obtain⟨p',qv,hp,rp,rs,rfl,h1,h2,h3,h4,h5⟩:=BC;have na:=n5.trans n6;show !(th,tr,p,rfl,d,f4.same na,λp7 H7 L f7=>?_);have O:=z1O d X.ok;have fc:depth J<=25:=by have:=X.dp;lia
 have BD:zu J<=12:=wY X.lv (w0L (show used<=3 from hu) (yW twice).2);have g8:=zd3 X.ok fc BD;have xg:=xf.trans (na.trans L);show !(zg (L _ _ h1) zH (th,tr,J,qv,p7,rfl,d,f7,h2.same L,O,g8,L4.same xg,hL.same xg,tJ,tK,tM,λfl us q8 H8 Y L8 x8 N8 au=>?_));have tO:=((f4.same na).same L).ev Y;have xh:=Y.tup (L _ _ h1);have BE:QAt H8 J qv:=(h2.same L).mono λb xs z=>Y.tup z
 have BF:=Y.lst (L _ _ h3);have BG:RowsAt H8 rp rs:=(Y.lst (L _ _ h4.1),λr m=>((h4.2 r m).1,Y.lst (L _ _ (h4.2 r m).2)));obtain⟨v0,e0,BH⟩:=N8.first
 have i0:atI us 0=some v0:=zR (j:=0) e0;obtain⟨_,FB,_⟩:=N8.eqv d O;show !(_,_,_,!(TyOf.lst x8,jr,!?_));show ifF (by rfl) ?_;show !?_;clear ep hep H9 n9 x9;show(fl,ep,_,rfl,rfl,SqL.of (n9 _ _ x8),SqL.of x9,!?_);show ifF (by cases us with|nil=>cases e0|cons _ _=>rfl) ?_;have sp:∀{r:Qn},wt r<=wt J->(post r).length<=4000:=λ{r} h=>wY (z6w r) (wY h g8)
 have fW:=sp (wA _);have g0:=BH.same n9;have g1:=BE.same n9;obtain⟨eK,w1,FC⟩:=z1T d g0 O;obtain⟨eL,w2,FD⟩:=z1T d g1 O;show !(zv (n9 _ _ x8) i0 (!(zg (n9 _ _ xh) zH (_,_,_,_,rfl,w1,w2,∅,λb ai bt ib=>!?_))));show ifF (by rw[ib.mpr (z5m g0 g1)];rfl) ?_;have R:=n9.trans bt;have dL:=R _ _ x8;have BI:us.length<=16000001:=by
  have z1:=zeE (th:=th) J;have z2:wt J*wt J<=4000*4000:=w0L g8 g8
  lia
 show !(fl,!(.inl (SqL.of dL),~~~(((),()),ex2 rfl rfl ?_)));show !(fl,!(.inl (SqL.of dL),ex2 rfl rfl ?_));have aD:(1:Int)<=1+(us.length:Int)/6:=by lia
 show z27 ?_;dsimp only;show z3A ?_;show yV (λm σ H'=>∃(i st:Int) (o6:Option V),σ= [some (.ref a),some (.ref p),some (.ref p'),some (.ref fl),some (.int st),some (.int i),o6]/\1<=st/\Nt ai H'/\Ls T1 T2 T3 H'/\i<us.length/\m=i.toNat) _ ((us.length:Int)-1,1+(us.length:Int)/6,none,rfl,aD,Nt.refl _,L8.same R,∅,rfl) ?_;rintro m σ N ⟨i,st,o6,rfl,iE,aY,ak,hi,rfl⟩;show !(~~~(!?_));by_cases h0:0<i
 rotate_left
 .refine ifF (wK h0) ?_;show q _
 show ifT (wN h0) ?_;show z7B λD hN hR=>?_
 obtain⟨qa,qb,x,y,ex,ey,ha,hb,cQ,Ea,S,wa,wb⟩:=N8.at d O (i.toNat-1) ∅;have i1:atI us i=some y:=by rw[show i=((i.toNat-1+1:Nat):Int) by lia];show zR ey
 have i2:atI us (i-1)=some x:=by rw[show i-1=((i.toNat-1:Nat):Int) by lia];show zR ex
 have ng:∀{b:Addr} {zs:List V},H8 b=some (.tup zs)->N b=some (.tup zs):=λe=>aY.tup (R _ _ e)
 have ni:QAt N qa x:=ha.mono λb xs e=>ng e
 have fO:QAt N qb y:=hb.mono λb xs e=>ng e
 have pa:=sp wa;have pb:=sp wb;have fX:=aY.lst dL;obtain⟨yp,ya,yk,rfl,bL,_⟩:=z39 fO;obtain⟨xp,xa,xk,rfl,c6,_⟩:=z39 ni;obtain⟨my,wy,ly⟩:=z1T d fO S.wf;show !(!(zv fX i1 (yp,_,my,rfl,bL,wy,∅,λaq n12=>!?_)));show ifF rfl ?_;have lP:=((tO.same R).nt aY).same n12;show !(th,tr,p,rfl,d,lP,λaf am aA lQ=>?_);have fP:=n12.trans aA;show !(!(zv (fP _ _ fX) i1 (th,tr,qb,_,af,rfl,d,lQ,fO.same fP,S.wf,S.sub X.sub,∅,ak.same fP,λar Z aZ ag ae=>?_)));have U:=(Nt.of fP).trans aZ;have oQ:=aY.trans U;have hw:=jy d O;have b7:=X.rows;have bQ:∀r∈rowsOf th tr J,r.length<=100:=λr m=>by rw[jo d O r m];show hw.2
 have nj:=oQ.tup (R _ _ xh);show !(!(zg nj jF (!(zg nj z1c (th,tr,J,_,hp,rp,rs,rfl,ae.eqv S,oQ.lst (R _ _ BF),(BG.same R).nt oQ,h5,hw.2,b7,bQ,!?_)))));show ifF (by rfl) ?_;have iF:=U.lst fX;have ie:QAt Z qb (.ref yp):=fO.mono λb xs e=>U.tup e
 have ig:QAt Z qa (.ref xp):=ni.mono λb xs e=>U.tup e
 obtain⟨my,wy,ly⟩:=z1T d ie S.wf;show !(!(zv iF i1 (yp,_,my,rfl,U.tup bL,wy,∅,λao bi=>!?_)));show ifF rfl ?_;obtain⟨mx,wx,lx⟩:=z1T d (ig.same bi) Ea.wf;show !(!(~~~(zv (bi _ _ iF) i2 (xp,_,mx,rfl,bi _ _ (U.tup c6),wx,∅,λap bH=>!?_))));show ifF rfl ?_;have M:=bi.trans bH;obtain⟨BJ,BK,FE⟩:=z1T d (ie.same M) S.wf;obtain⟨BL,BM,FF⟩:=z1T d (ig.same M) Ea.wf;show !(!(zv (M _ _ iF) i1 (!(!(~~~(zv (M _ _ iF) i2 (_,_,BJ,BL,rfl,BK,BM,∅,λb as bj ib=>!?_)))))));cases b with
 | true=>show absurd (zeA (z1Q (ie.same M) (ib.mp rfl)) (ig.same M)).symm cQ
 | false=>
  show ifF rfl ?_;show !(!(ex2 rfl rfl ?_));show hN _ _ (_,∅,i-st,st,_,rfl,iE,oQ.trans (Nt.of (M.trans bj)),ag.same (M.trans bj),∅,rfl)
end
structure DI(K:W.Frag)(x:Str)(st:Stmt)(f:Addr):Prop where
 ex:∃fd,Fun K x x st f fd
 a:PySem.W.nsIn K mainGlobals x=some (some (.ref f))
 k:PySem.W.keepIn K (.ref f)=true
structure DL(K:W.Frag)(x:Str)(st:Stmt)(f T:Addr):Prop where
 ex:∃fd c,Fun K x x st f fd/\fd.code= .ref c/\PySem.W.codeHdIn K c T=true
 a:PySem.W.nsIn K mainGlobals x=some (some (.ref f))
 k:PySem.W.keepIn K (.ref f)=true
structure Wd(P:Program)(w:World)(K:W.Frag)(mg:Str->Option Value)(base:Heap):Prop where
 ex:∃h:Heap,K.In h/\h.Ns mainGlobals mg
 kb:K.In base
section
variable{K:W.Frag}{x y:Str}{st:Stmt}{f:Addr}{k:Nat}{ps:List Str}{oc kV aQ pm aa ct:Value}{od an:Option Addr}{cK:Array (Option Value)}
def di(a:PySem.W.nsIn K mainGlobals x=some (some (.ref f)))(l:K.lookup f=some (oc,od,.func (PySem.W.fnOf x x (z0B st) (jO st) (zi st) .none kV aQ pm an aa ct),cK))(c:PySem.W.codeIn K aa x=true)(h:PySem.W.keepIn K (.ref f)=true):DI K x st f:=((_,z6r l c h),a,h)
theorem dl(a:PySem.W.nsIn K mainGlobals x=some (some (.ref f)))(l:K.lookup f=some (oc,od,.func (PySem.W.fnOf x x (z0B st) (jO st) (zi st) .none kV aQ pm an aa ct),cK))(c:PySem.W.codeIn K aa x=true)(h:PySem.W.keepIn K (.ref f)=true)(t:L2.codeOf K aa T=true):DL K x st f T:=by
 obtain⟨c',rfl,z⟩:=L2.codeOf_ex t;exact((_,c',z6r l c h,rfl,z),a,h)
def Wd.gl{v:Value}(W:Wd P w K mg base)(a:PySem.W.nsIn K mainGlobals x=some (some v)):mg x=some v:=let ⟨_,X,G⟩:=W.ex;PySem.W.mg_of X G a
theorem kn(W:Wd P w K mg base)(d:DI K x st f)(ok:∀{fd},Fun K x x st f fd->FnOk P w K mg base CX0 k f fd ps sp)(b:∀{fd},Fun K x x st f fd->Binds K fd ps []:=by first|exact λF=>F.binds λv v v v v v=>zdy λv=>rfl|exact λF=>F.binds λv v v v v v=>zb3 λv v=>rfl|exact λF=>F.binds λv v v v v v=>zdT λv v v=>rfl|exact λF=>F.binds λv v v v v v=>zfJ λv v v v=>rfl):Kn P w K mg base k x ps sp:=
 let ⟨_,F⟩:=d.ex
 (_,_,ok F,W.gl d.a,d.k,b F)
theorem knR(W:Wd P w K mg base)(d:DI K x st f)(ok:∀{fd},Fun K x x st f fd->(∀(kk:Nat) (c:Sp),FnOk P w K mg base CX0 kk f fd ps c->Kn P w K mg base kk x ps c)->FnOk P w K mg base CX0 k f fd ps sp)(b:autoParam (∀{fd},Fun K x x st f fd->Binds K fd ps []) kn._auto_1):Kn P w K mg base k x ps sp:=
 let ⟨_,F⟩:=d.ex
 (_,_,ok F λv v h=>(_,_,h,W.gl d.a,d.k,b F),W.gl d.a,d.k,b F)
theorem knS{sp:SpS}(W:Wd P w K mg base)(d:DI K x st f)(ok:∀{fd},Fun K x x st f fd->FnOkS P w K mg base CX0 k f fd ps sp)(b:autoParam (∀{fd},Fun K x x st f fd->Binds K fd ps []) kn._auto_1):KnS P w K mg base CX0 k x ps sp:=
 let ⟨_,F⟩:=d.ex
 (_,_,ok F,W.gl d.a,d.k,b F)
theorem knL(W:Wd P w K mg base)(d:DL K x st f T)(ok:∀{fd c},Fun K x x st f fd->fd.code= .ref c->PySem.W.CodeHd base c T->FnOk P w K mg base CX0 k f fd ps sp)(b:autoParam (∀{fd},Fun K x x st f fd->Binds K fd ps []) kn._auto_1):Kn P w K mg base k x ps sp:=
 let ⟨_,_,F,hc,z⟩:=d.ex
 (_,_,ok F hc (PySem.W.codeHd_of_K W.kb z),W.gl d.a,d.k,b F)
structure DM(K:W.Frag)(C:Addr)(x y:Str)(st:Stmt)(f:Addr):Prop where
 ex:∃fd,Fun K x y st f fd
 a:PySem.W.findIn K (.ref C) x=some (some (.ref f))
 n:PySem.W.isFn K (.ref f)=true
 k:PySem.W.keepIn K (.ref f)=true
structure DN(K:W.Frag)(C:Addr)(x y:Str)(st:Stmt)(f T:Addr):Prop where
 ex:∃fd c,Fun K x y st f fd/\fd.code= .ref c/\PySem.W.codeHdIn K c T=true
 a:PySem.W.findIn K (.ref C) x=some (some (.ref f))
 n:PySem.W.isFn K (.ref f)=true
structure DC(K:W.Frag)(x:Str)(C:Addr):Prop where
 a:PySem.W.nsIn K mainGlobals x=some (some (.ref C))
 m:PySem.W.makesIn K C=true
 k:PySem.W.keepIn K (.ref C)=true
def dm(a:PySem.W.findIn K (.ref C) x=some (some (.ref f)))(l:K.lookup f=some (oc,od,.func (PySem.W.fnOf x y (z0B st) (jO st) (zi st) .none kV aQ pm an aa ct),cK))(c:PySem.W.codeIn K aa y=true)(h:PySem.W.keepIn K (.ref f)=true)(n:PySem.W.isFn K (.ref f)=true):DM K C x y st f:=((_,z6r l c h),a,n,h)
theorem dn(a:PySem.W.findIn K (.ref C) x=some (some (.ref f)))(l:K.lookup f=some (oc,od,.func (PySem.W.fnOf x y (z0B st) (jO st) (zi st) .none kV aQ pm an aa ct),cK))(c:PySem.W.codeIn K aa y=true)(h:PySem.W.keepIn K (.ref f)=true)(n:PySem.W.isFn K (.ref f)=true)(t:L2.codeOf K aa T=true):DN K C x y st f T:=by
 obtain⟨c',rfl,z⟩:=L2.codeOf_ex t;exact((_,c',z6r l c h,rfl,z),a,n)
def dc(a:PySem.W.nsIn K mainGlobals x=some (some (.ref C)))(m:PySem.W.makesIn K C=true)(h:PySem.W.keepIn K (.ref C)=true):DC K x C:=(a,m,h)
theorem knM(W:Wd P w K mg base)(c:Cls K C)(d:DM K C x y st f)(ok:∀{fd},Fun K x y st f fd->FnOk P w K mg base CX0 k f fd ps sp)(b:autoParam (∀{fd},Fun K x y st f fd->Binds K fd ps []) kn._auto_1):KnM P w K mg base k x ps sp C:=
 let ⟨_,F⟩:=d.ex
 (c,_,_,(d.a,d.n,d.k),ok F,b F)
theorem knC{z:Str}(W:Wd P w K mg base)(e:DC K z C)(d:DM K C "__init__" y st f)(ok:∀{fd},Fun K "__init__" y st f fd->FnOk P w K mg base CX0 k f fd ps sp)(b:autoParam (∀{fd},Fun K "__init__" y st f fd->Binds K fd ps []) kn._auto_1):KnC P w K mg base k z ps sp C:=
 let ⟨_,F⟩:=d.ex
 (_,_,(e.m,d.a,d.n,e.k),ok F,W.gl e.a,b F)
theorem knN{z:Str}(W:Wd P w K mg base)(e:DC K z C)(d:DN K C "__init__" y st f T)(ok:∀{fd c},Fun K "__init__" y st f fd->fd.code= .ref c->PySem.W.CodeHd base c T->FnOk P w K mg base CX0 k f fd ps sp)(b:autoParam (∀{fd},Fun K "__init__" y st f fd->Binds K fd ps []) kn._auto_1):KnC P w K mg base k z ps sp C:=
 let ⟨_,_,F,hc,h⟩:=d.ex
 (_,_,(e.m,d.a,d.n,e.k),ok F hc (PySem.W.codeHd_of_K W.kb h),W.gl e.a,b F)
end
variable{l:PySem.W.OpenLaw}
theorem all_mk{K:W.Frag}{h:Heap}{A f0 f1 f2 f3 f4 f5 f6 f7 f8 f9 pV pW lP lQ pX pY pZ r6 r9 ra rb BN BO BP BQ BR BS U BU BV BW BX BY BZ C0 C3 C4 C5 C6 C7 C8 C9 Ca Cb Cc Cd Ce Cf tO Cg Ch Ci Cj Ck Cl Cm Co Cp Cq Cr Cs Ct Cu Cv Cw Cy Cz CA c d i j n:Addr}(X:K.In h)(G:h.Ns mainGlobals mg)(CB:mg "law"=some (.ref A))
  (CD:DC K "Place" j) (b:PC K j)
  (CF:DC K "Turner" n) (f:TC K n)
  (d0:DI K "number_of" z2a f0)
  (d1:DI K "compared" z2Q f1)
  (d2:DI K "holds" z6P f2)
  (d3:DI K "columns_of" z1w f3)
  (d4:DI K "straight_within" ky f4)
  (Q:DI K "inner_first" z18 f5)
  (d6:DI K "built_up" z2R f6)
  (d7:DI K "heads_of_table" kN f7)
  (d8:DI K "check_columns" z0j f8)
  (d9:DI K "each_once" z2f f9)
  (CG:DI K "heads_over_one" kW pV)
  (CI:DI K "heads_over_two" kP pW)
  (d12:DI K "heads_at" z30 lP)
  (d13:DL K "heads_of" z1v lQ c)
  (CJ:DI K "joined" z56 pX)
  (CK:DI K "grouped" z2A pY)
  (CM:DL K "in_order" z0L pZ Tb)
  (CN:DI K "rows_of_table" yY r6)
  (CO:DI K "numbers_at" z0u r9)
  (CP:DI K "paired" z3q ra)
  (CQ:DI K "rows_over_one" jS rb)
  (CS:DI K "rows_over_two" z0o BN)
  (CT:DI K "rows_at" z3W BO)
  (d23:DI K "answer_at" z0V BP)
  (CU:DL K "plain_answer" kG BQ d)
  (CV:DI K "_law_texts" z1I BR)
  (CW:DI K "_law_whole" z1J BS)
  (CY:DI K "_law_numbers" z0K U)
  (CZ:DI K "_law_alike" z1z BU)
  (D0:DI K "_law_answers" z0M BV)
  (D4:DI K "_law_again" ku BW)
  (D5:DI K "_law_wide" z2d BX)
  (D6:DI K "_law_stocked" jL BY)
  (D7:DI K "_law_spelt" kJ BZ)
  (D8:DI K "_law_true" z0i C0)
  (D9:DI K "_law_asking" z1f C3)
  (Da:DI K "_law_picked" z03 C4)
  (Db:DI K "_law_columns" yg C5)
  (Dd:DI K "_law_sorted" z0b C6)
  (De:DI K "_law_headed" z1e C7)
  (Df:DI K "_law_doubled" z0J C8)
  (tJ:DI K "_law_beside" z1a C9)
  (tK:DI K "_law_united" z07 Ca)
  (tM:DI K "_law_counted" yh Cb)
  (Dg:DI K "_law_grown" z1F Cc)
  (Dh:DM K j "__init__" "Place.__init__" z0z Cd)
  (Di:DI K "is_pick" z3N Ce)
  (Dj:DI K "picked" z4A Cf)
  (Dk:DI K "among" z4r tO)
  (Dl:DI K "joined_by" z23 Cg)
  (Dm:DI K "sent_to_a_part" kT Ch)
  (Do:DI K "sent_within" z02 Ci)
  (Dq:DI K "takes" z70 Cj)
  (S:DI K "passes" z5e Ck)
  (Dt:DI K "turned_pick" z1b Cl)
  (Du:DI K "turned_first" z0S Cm)
  (Dv:DI K "turned" z4P Co)
  (Dw:DI K "place_over" z0y Cp)
  (Dx:DN K n "__init__" "Turner.__init__" z06 Cq i)
  (Dy:DM K n "go_within" "Turner.go_within" k8 Cr)
  (Dz:DM K n "go_back" "Turner.go_back" kZ Cs)
  (DA:DM K n "turn" "Turner.turn" yS Ct)
  (DB:DM K n "whole" "Turner.whole" kE Cu)
  (DD:DI K "turnings" z2P Cv)
  (DE:DI K "_law_like" z2e Cw)
  (DF:DI K "_law_form" z2j Cy)
  (DG:DI K "_law_unturned" z0p Cz)
  (I:DI K "law" z5Y CA)
  (z0:PySem.W.nsIn K mainGlobals "isinstance"=some none)
  (z1:PySem.W.nsIn K mainGlobals "int"=some none)
  (z2:PySem.W.nsIn K mainGlobals "bool"=some none)
  (z3:PySem.W.nsIn K mainGlobals "list"=some none)
  (z4:PySem.W.nsIn K mainGlobals "tuple"=some none)
  (z5:PySem.W.nsIn K mainGlobals "str"=some none)
  (z6:PySem.W.nsIn K mainGlobals "len"=some none)
  (z7:PySem.W.nsIn K mainGlobals "range"=some none)
  (z8:PySem.W.nsIn K mainGlobals "min"=some none)
  (z9:PySem.W.nsIn K mainGlobals "max"=some none)
  (Y:PySem.W.nsIn K mainGlobals "sum"=some none)
  (DJ:PySem.W.nsIn K mainGlobals "sorted"=some none)
  (Z:PySem.W.nsIn K mainGlobals "reversed"=some none)
  (DO:PySem.W.nsIn K mainGlobals "zip"=some none)
  {t:Addr} {DP:Option Addr} {DQ:Array (Option Value)} {nC:Nat} {t1 t2:Tok} (aC:PySem.W.nsIn K mainGlobals "COMPARISONS"=some (some (.ref t))) (lC:K.lookup t=some (.type "tuple",DP,.seq #[.str "less" t1,.str "same" t2] nC,DQ))
  {u:Addr} {DR:Option Addr} {DS:Array (Option Value)} {nT:Nat} {t3 t4 t5:Tok} (aT:PySem.W.nsIn K mainGlobals "TWOFOLD"=some (some (.ref u))) (lT:K.lookup u=some (.type "tuple",DR,.seq #[.str "pair" t3,.str "join" t4,.str "both" t5] nT,DS))
  (zs:PySem.W.nsIn K mainGlobals "set"=some none)
  (tP:decide (c=d)=false) (tQ:decide (c=Tb)=false) (tR:decide (d=Tb)=false) (tS:decide (i=c)=false) (tT:decide (i=d)=false) (tU:decide (i=Tb)=false)
  (DT:PySem.W.nsIn K mainGlobals "enumerate"=some none) (DU:PySem.W.nsIn K mainGlobals "all"=some none)
  :∃fd:FuncData,(∀(s:Shared) (v:Value),BindsTo s fd ([v],[]) [("_law_script",v)])/\∀base:Heap,K.In base->base.Ns mainGlobals mg->(∀T∈ [Tb,c,d,i],base.BuiltinsAt mg T)->FnOk l.prog w K mg base CX0 13 A fd ["_law_script"] (spLaw K c d Tb i):=by
 have e:=CB.symm.trans (PySem.W.mg_of X G I.a);cases e;have T:Txt K mg:=(qO X G z0,qO X G z1,qO X G z2,qO X G z3,qO X G z4,qO X G z5,qO X G z6,qO X G z7,qO X G z8,qO X G z9,qO X G Y,qO X G DJ,qO X G Z,qO X G DO);have R:TxtP K mg:=((t,PySem.W.mg_of X G aC,λH=> .inr (_,_,_,lC,rfl,rfl,(by show 2<=sizeLine;decide),.cons (_,rfl) (.cons (_,rfl) .nil))),qO X G zs,(u,PySem.W.mg_of X G aT,λH=> .inr (_,_,_,lT,rfl,rfl,(by show 3<=sizeLine;decide),.cons (_,rfl) (.cons (_,rfl) (.cons (_,rfl) .nil)))));have M:TxtM K mg:=(qO X G DU,qO X G DT);obtain⟨fd,F⟩:=I.ex;obtain⟨oc,od,kV,dc,pm,an,cd,ct,sl,rfl,lk,av⟩:=id F.ex;refine(PySem.W.fnOf "law" "law" (z0B z5Y) (jO z5Y) (zi z5Y) .none kV dc pm an cd ct,λs v=> .of_eq rfl,λbase nR m p=>?_);have W:Wd l.prog w K mg base:=((h,X,G),nR);have n0:=kn W d0 λF=>z6N F T
 have n1:=kn W d1 λF=>z7Y F T n0
 have n2:=kn W d2 λF=>zbn F T R n1
 have P:=kn W d3 λF=>z5k F T
 have z:=kn W d4 λF=>z31 F T R
 have n5:=kn W Q λF=>z5g F T z
 have x:=knS W d6 λF=>z7E (k:=8) (by decide) F T n5 z
 have n7:=kn W d7 λF=>z3e F T
 have D:=kn W d8 λF=>z3J F T
 have O:=kn W d9 λF=>z6Q F T R
 have bt:=kn W CG λF=>z3z F T D P O
 have aY:=kn W CI λF=>z3l F T D O
 have n12:=kn W d12 λF=>z7T F T n7 bt aY
 have aA:=knL (sp:=(spHeadsOf K c d Tb)) W d13 λF hc C=>z7u F T hc C (p _ (by simp)) x n12
 have aZ:=kn W CJ λF=>zb0 F T
 have bi:=kn W CK λF=>z8U F T
 have bH:=knL (sp:=(spOrder K Tb)) W CM λF hc C=>z7d F T hc C (p _ (by simp))
 have bj:=kn W CN λF=>z3R F T
 have bD:=kn W CO λF=>z5A F T
 have bu:=kn W CP λF=>zaN F T
 have bv:=kn (sp:=(spR1 K c d Tb)) W CQ λF=>z3Y F T n2 bD bi bH
 have DV:=kn W CS λF=>z3P F T bu aZ
 have DW:=kn W CT λF=>z8q F T bj bv DV
 have DX:=kn W d23 λF=>z6s F T n12 DW
 have DY:=knL (sp:=(spPlain K c d Tb)) W CU λF hc C=>z4q F T hc C (p _ (by simp)) aA x DX
 have DZ:=kn W CV λF=>z5u F T
 have q:=kn W CW λF=>z5t F T
 have E4:=kn W CY λF=>z4p F T q
 have E5:=kn W CZ λF=>z5r F T E4
 have E6:=kn W D0 λF=>z4m F T DZ E5
 have E7:=kn W D4 λF=>z5D F T
 have E8:=kn W D5 λF=>z6S F T
 have E9:=kn W D6 λF=>z4g F T
 have Ec:=knR (k:=7) W D7 λF r=>z2I F T r 7
 have Ed:=knR (k:=7) W D8 λF r=>z3p F T r 7
 have Ee:=kn W D9 λF=>z4N F T
 have E:=kn W Da λF=>z4I F T Ee Ed Ec
 have Ef:=kn W Db λF=>z4b F T
 have J:=kn W Dd λF=>z5d F T
 have L:=kn W De λF=>z4Y F T
 have Eg:=kn W Df λF=>z4d F T E
 have Eh:=kn W tJ λF=>z4J F T
 have Ei:=kn W tK λF=>z4B F T J L
 have Ej:=kn W tM λF=>z4l F T
 have Ek:=kn W Dg λF=>z5z F T E Ef Ei Eh Eg L Ej J
 have o:=knC W CD Dh λF=>z5v F T b
 have B:=kn (sp:=(spIsPick j)) W Di λF=>z8C F T b
 have y:=kn W Dj λF=>zaf F T b o
 have El:=kn W Dk λF=>zdc F T M
 have Em:=kn W Dl λF=>z6A F T b o
 have En:=kn W Dm λF=>z3w F T b o P El y Em
 have N:=kn W Do λF=>z5f F T b o y En
 have oP:=kn (sp:=(spTakes j)) W Dq λF=>zco F T N
 have Eo:=kn W S λF=>zai F T b B oP
 have Ep:=kn W Dt λF=>z4D F T b B N Eo y
 have Er:=kn W Du λF=>z4n F T b o
 have na:=kn W Dv λF=>zat F T b o Ep Er
 have oj:=kn W Dw λF=>z5l F T b o n12
 have bI:=knN (sp:=(spTInit j n c d Tb i)) W CF Dx λF hc C=>z4C F T f hc C (p _ (by simp)) x oj
 have fI:=knM (sp:=(spGoW j n)) W f.cls Dy λF=>z2E F T b f
 have Es:=knM (sp:=(spGoB j n)) W f.cls Dz λF=>z34 F T b f o
 have Et:=knM (sp:=(spTurn j n)) W f.cls DA λF=>z4L F T M b f Es fI na
 have Eu:=knM (sp:=(spTWhole j n)) W f.cls DB λF=>z4o F T b f
 have Ew:=kn (sp:=(spTurnings j c d Tb i)) W DD λF=>z8b F T bI Et Eu
 have Ex:=kn W DE λF=>z6z F T q
 have Ey:=kn W DF λF=>z74 F T q
 have Ez:=kn W DG λF=>z3K F T
 exact zff F T (C:=j) (w0i tP) (w0i tQ) (w0i tR) (w0i tS) (w0i tT) (w0i tU) E8 E9 Ek E7 Ew Ex Ey DY E6 Ez
theorem walk{q:Program}{loose:List Str}{y:(Str->Option Value)->Heap->Prop}{o:World->Heap->Prop}{d:DefRec}{K:Params->W.Frag}{c e b:Addr}(hn:l.most=some 63)(z:d.params.defaults= [])
  (r:∀(w:World) (h:Heap),o w h->(K w.params).In h/\∀T∈ [Tb,c,e,b],h.get? T=some (PySem.W.tabObj #[])) (p:∀(w:World),∀T∈ [Tb,c,e,b],L2.codeTabIn (K w.params) T=true) (t:∀(w:World),∀T∈ [Tb,c,e,b],(K w.params).lookup T=none)
  (F:∀(w:World) (mg:Str->Option Value) (j:Addr) (h:Heap),(K w.params).In h->h.Ns mainGlobals mg->mg d.name=some (.ref j)->
   ∃fd:FuncData,(∀(s:Shared) (u:Value),BindsTo s fd ([u],[]) [("_law_script",u)])/\∀base:Heap,(K w.params).In base->base.Ns mainGlobals mg->(∀T∈ [Tb,c,e,b],base.BuiltinsAt mg T)->FnOk l.prog w (K w.params) mg base CX0 13 j fd ["_law_script"] (spLaw (K w.params) c e Tb b)):
  PySem.W.WalkO q loose y o l.row.toRowW d [] (λf vs=>PySem.call f vs):=
 L2.walk_ofT (n:=63) (k:=13) (x:="_law_script") (sp:=λw=>spLaw (K w.params) c e Tb b) hn (by decide) z (rfl,by decide,by decide) r p t F λv v a ns hl A i=>(a,ns,rfl,A,hl,.inl (i _ (by simp)),.inl (i _ (by simp)),.inl (i _ (by simp)),.inl (i _ (by simp)),λv=>rfl)
end Q12
end
structure PySem.W.Fast:Prop where
 (tw16603109818598214812 tw17220767717319811703 tw15557848479497508568 tw14680574691538747394 tw1097968867426075954 tw12547116681090511456 tw4298036714050174603 tw817328137130382715 tw16148696537397844547 tw6624742497246540883 tw17943977351918175900 tw6752281817451698116 tw16984994270139052580 tw16798154593631951769 tw4835251412874263948 tw13052029621388853247 tw12603075623660431144 tw4746604698718570753 tw3468739194059799672 tw17497331951702899095 tw1653629920800555800 tw9995403048035229910 tw5989856024704958058 tw12120704796123307479 tw16969704242559354030 tw16347866288657253813 tw8976517511834965530 tw14850879285566730997 tw17376662462237745563 tw17903120842489215292 tw793414381657393125 tw7226688022353514223 tw5836077987207458870 tw12519991340213478112 tw5923467073930532250 tw8578670932694685260 tw3740976531590409735 tw8306842338111119018 tw10812699469698202396 tw13944102632180725140 tw11094490476098656005 tw18176803686658858868 tw15101782992957803860 tw4202675291601649765 tw8156348525171473590 tw10227490775449029059 tw14632050032630001762 tw15261858356945675333 tw11588523310829641370 tw9729941239954466635 tw5123947890311560003 tw12519294082957828027 tw3995863830613658764 tw16830901283781646645 tw13908502363113968258 tw2395280254019423035 tw17342454830440694412 tw8983440855403104102 tw12540478301120866934 tw12642286953299253138 tw2226783661428909284 tw9493260370637904233 tw3778967565073568558 tw16409993870657186288 tw8674180654626485594 tw9865943365546379381 tw17204034470405115916 tw7824256427276504403 tw13739548733612933606 tw8541360425127423991 tw4026265941476873803 tw5222767664039954960 tw17767048352448402863 tw14624089387099108205 tw13913350956980656194 tw4190682743217034867 tw432925583121822737 tw6955983652598432876 tw1398809959497177812 tw15615470325944009725 tw6959712538563255329 tw14612335687497517995 tw9612375648929914748 tw3630778154999488356 tw10416387071590771458 tw2025398372749339016 tw17174868258019111006 tw11775455911437135091 tw6647220472446304430 tw11352305319641528625 tw14456228353923045668 tw13651801070200320125 tw14038826637456877611 tw7528495927692433261 tw15459704163666982948 tw8585830131247851921 tw3545544766254458843 tw9514915880612893349 tw10782337983745545010 tw7827922564826807803 tw2375549027063480951 tw8180143845594136221 tw1695228833315140803 tw16326164735644167163 tw14338739523098522172 tw8399009290570683019 tw15281376673229631063 tw14275682990925759214 tw2060695946217171872 tw15264957709015831693 tw2662735371671303522 tw6730826875328657165 tw3916361157374695663 tw1142200718953648125 tw9674188758916901191 tw3068457986695076445 tw11860426357336781301 tw15348336695826443342 tw7247945807951012498 tw7592774775014715507 tw1316578842789072679 tw2619825305996731529 tw5520987638736560875 tw5655235133780747964 tw16350519387691765282 tw1733697004170753630 tw12899111391991049289 tw16328179476457950337 tw16426805529069862466 tw9304352018897073534 tw18017980933768206778 tw1745916308773992037 tw18049836945048568187 tw14854970176577975786 tw13977644165641453853 tw2656972773255289393 tw1989835205207061565 tw8449268636070581222 tw17874625808819616021 tw4917830755744839611 tw4634465391721673947 tw13801678058867470358 tw5317541544789594359 tw11202864070199607842 tw18090860612689240077 tw795316362501432930 tw6823612800521977859 tw16283677558256991862 tw17979951122792567927 tw6875430569321518465 tw8811713503862433760:True)
open PySem PySem.W PyProof.Rows
set_option maxRecDepth 100000 in
set_option maxHeartbeats 0 in
theorem PySem.Challenge.cw_sheetask_k10_whole_turnings_keep_holds : PySem.Challenge.rw_sheetask_k10_whole_turnings_keep.Holds := by
 w_on;o_law;k_head;(case hw=>w_witness2)
 k_fill
 refine Q12.walk (l:=PySem.Challenge.rw_sheetask_k10_whole_turnings_keep) rfl rfl (λw h Y=>⟨PySem.W.km_in_of Y,PySem.W.km_tabs_of Y⟩) (λw=>List.forall_mem_cons.mpr ⟨by kernel_rfl,List.forall_mem_cons.mpr ⟨by kernel_rfl,List.forall_mem_cons.mpr ⟨by kernel_rfl,List.forall_mem_cons.mpr ⟨by kernel_rfl,λv h=>nomatch h⟩⟩⟩⟩) (λw=>List.forall_mem_cons.mpr ⟨by kernel_rfl,List.forall_mem_cons.mpr ⟨by kernel_rfl,List.forall_mem_cons.mpr ⟨by kernel_rfl,List.forall_mem_cons.mpr ⟨by kernel_rfl,λv h=>nomatch h⟩⟩⟩⟩) ?F
 case F=>
  intro w mg fa h KX G hmg;refine' Q12.all_mk KX G hmg ?_ ?_ ?_ ?_ ?_ ?_ ?_ ?_ ?_ ?_ ?_ ?_ ?_ ?_ ?_ ?_ ?_ ?_ ?_ ?_ ?_ ?_ ?_ ?_ ?_ ?_ ?_ ?_ ?_ ?_ ?_ ?_ ?_ ?_ ?_ ?_ ?_ ?_ ?_ ?_ ?_ ?_ ?_ ?_ ?_ ?_ ?_ ?_ ?_ ?_ ?_ ?_ ?_ ?_ ?_ ?_ ?_ ?_ ?_ ?_ ?_ ?_ ?_ ?_ ?_ ?_ ?_ ?_ ?_ ?_ ?_ ?_ ?_ ?_ ?_ ?_ ?_ ?_ ?_ ?_ ?_ ?_ ?_ ?_ ?_ ?_ ?_ ?_ ?_ ?_ ?_ ?_ ?_ ?_ ?_ ?_ ?_ ?_ ?_
  all_goals first|(apply Q12.di;k_is;k_is;k_is;k_is)|(apply Q12.dl;k_is;k_is;k_is;k_is;kernel_rfl)|(apply Q12.dm;k_is;k_is;k_is;k_is;kernel_rfl)|(apply Q12.dn;k_is;k_is;k_is;k_is;kernel_rfl;kernel_rfl)|(apply Q12.dc;k_is;kernel_rfl;k_is)|(refine⟨⟨?_,?_,?_,?_⟩,?_,?_,?_,?_,?_⟩<;>(try delta L2.NoAttr)<;>kernel_rfl)|(refine⟨⟨?_,?_,?_,?_⟩,?_,?_⟩<;>(try delta L2.NoAttr)<;>kernel_rfl)|k_is|kernel_rfl|skip
#print axioms PySem.Challenge.cw_sheetask_k10_whole_turnings_keep_holds

import PyProof.Rows.All
import Wide.All
import OpenK.AllK
import PySem.Challenge.RW_sheetask_k05_heads_and_refusals
set_option Elab.async false
set_option linter.all false
set_option maxRecDepth 100000
set_option maxHeartbeats 0
set_option tactic.hygienic false
set_option compiler.extract_closed false
set_option hygiene false
set_option bootstrap.genMatcherCode false
set_option genSizeOf false
section
local macro_rules|`(($a,$b,*))=>`(⟨$a,$b,*⟩)
local macro_rules|`(tactic|decide)=>`(tactic|decide +kernel)
local macro_rules|`(tactic|obtain $p:rcasesPatMed :=($e:term))=>`(tactic|(refine Classical.byContradiction fun hG=>?_;rcases $e:term with $p:rcasesPatMed;all_goals(refine hG ?_;clear hG)))
local macro_rules|`(tactic|show $e)=>`(tactic|refine $e)
theorem z_a(h:True:=by first|show .inl rfl|show .inr rfl|assumption):True:=h
theorem z_b(h:True:=by intro _;rfl):True:=h
theorem z_c(h:True:=by first|show w0v rfl|show QO (w0v rfl)|show QO (QO rfl)):True:=h
theorem zz(h:True:=by rfl):True:=h
theorem nf'{p:Prop}(h:false=true):p:=by cases h
theorem z_(g:True:=by decide):True:=g
local macro_rules|`($x⁻¹)=>`(autoParam $x zz._auto_1)|`(~~~$x)=>`(autoParam $x z_._auto_1)|`($x∣0)=>`(autoParam (($x == ("__debug__":Str))=false) z_._auto_1)|`($x∣$y)=>`(autoParam (AJ ($x ::$y) X.env=(false,eval $x X.env)::AJ $y X.env) zz._auto_1)
open List renaming length_map->wa,getElem?_eq_getElem->wb,getElem?_eq_some_iff->we,length_append->wg,mem_singleton->wm,getD_eq_getElem?_getD->wx,getElem_mem->wz,mem_append->wA,size_toArray->wB,mem_append_right->wE,mem_cons->wF,getElem?_map->wK,length_cons->wP,map_append->wT,length_singleton->wZ,mem_cons_of_mem->q5,forall_mem_singleton->qf,not_mem_nil->qh,length_take->qi,mem_append_left->qj,forall_mem_cons->qm,take_add_one->qA,mem_of_getElem?->qB,idxOf_lt_length_iff->qF,mem_cons_self->qI,map_cons->qK,lookup_cons->qM,take_length->qP,all_eq_true->qU,mem_map->Q0,getElem?_append_right->QA,mem_of_mem_take->QB,nodup_append->QN,length_nil->QS,length_eq_zero_iff->QV,reverse_cons->QY,length_pos_iff->QZ,drop_eq_getElem_cons->w01,append_nil->w03,nodup_cons->w05,getElem_toArray->w0c,mem_range->w0g,append_assoc->w0p,length_reverse->w0x,getElem?_set_self->w0z,length_replicate->w0E,take_zero->w0O,dropLast_concat->w0P,length_drop->w1d,any_eq_true->w1e,take_of_length_le->w1j,find?_cons->w1s,getElem?_eq_none->w1t,drop_zero->w1E,map_nil->w1Q,any_cons->w1U,map_take->w1Z
open PySem.Heap renaming get?_push_of_some->wo,lt_size->wI,get?_push_size->wX,get?_update_other->qS,size_push->Qi,get?_update_self->w06,get?_update_ne->w1I
open Nat renaming le_refl->wy,le_trans->wG,lt_of_lt_of_le->wM,ne_of_lt->wS,le_of_ble_eq_true->qe,zero_le->qN,lt_succ_of_lt->Qc,mul_le_mul->Qk,ne_of_gt->Qv,mul_add->QC,mul_le_mul_right->QD,lt_irrefl->QF,add_mul->w00,mul_le_mul_left->w0y,lt_succ_self->w0C,le_succ->w0L,mul_left_comm->w19,le_add_right->w1f,not_lt_zero->w1v,one_mul->w1w,le_of_lt->w1M,le_of_eq->w1P,mul_one->w2h
open PyProof.Rows renaming boot_isinstance->wJ,boot_list->qY,callWith_type1->Qe,slot_tuple_getitem->Qf,boot_str->Qm,boot_tuple->w0e,boot_sum->w0H
open Bool renaming false_ne_true->wQ,and_eq_true->qX,eq_false_iff->Qg,false_eq_true->w08,eq_iff_iff->w0t,false_and->w1C,true_and->w1V
open PySem.F renaming plainAttrs_list->wR,slot_list_index->qC,type_list_index->qL,slot_list_pop->w0I,type_list_pop->w0J
open PySem.W renaming mg_none_of->qO,kia_one->Qw,mg_of->w0f,callWith_K->w0D,codeHd_of_K->w1J
open Array renaming length_toList->QJ,getElem?_toList->w0F
open Option renaming isSome_iff_exists->QL
open Or renaming inr->QO,inl->w0v
open True renaming intro->w0m
open PySem.Str renaming length_append->w0q
open Int renaming zero_add->w0G,natCast_nonneg->w1l
open Ne renaming symm->w0K
open Option renaming some->AA,none->AB
open PySem renaming Value->AC,Addr->AD,Shared->AE,sizeLine->AI,starEach->AJ,mainGlobals->AK,NameKind->AL,Program->AM,Heap->AN,wpAny->AT,model->AV,Around->Aj,World->Av,FuncData->A1
section
open PySem PySem.Spec PyProof.Rows
def wu:type_of% @wpAny_bind:=@wpAny_bind
theorem wL:type_of% @decide_eq_false:=@decide_eq_false
def wN:type_of% @wpAny_pure:=@wpAny_pure
theorem wW:type_of% @if_neg:=@if_neg
theorem qc:type_of% @if_pos:=@if_pos
theorem qd:type_of% @decide_eq_true:=@decide_eq_true
def qE:type_of% @wpS_pure:=@wpS_pure
def qJ:type_of% @wpS_bind:=@wpS_bind
def qQ:type_of% @wpAny_mono:=@wpAny_mono
def qZ:type_of% @PySem.mem_of_lookup:=@PySem.mem_of_lookup
theorem Qb:type_of% @beq_iff_eq:=@beq_iff_eq
def Qd:type_of% @ne_of_beq_false:=@ne_of_beq_false
def Qj:type_of% @wpAny_Call_Name_kw:=@wpAny_Call_Name_kw
def Qo:type_of% @wpAny_holding:=@wpAny_holding
theorem Qp:type_of% @sizeLine_eq:=@sizeLine_eq
def Qq:type_of% @of_decide_eq_true:=@of_decide_eq_true
def Qu:type_of% @Calls.spliced_cons:=@Calls.spliced_cons
def Qy:type_of% @wpS_forRange:=@wpS_forRange
theorem QE:type_of% @or_false:=@or_false
def QG:type_of% @congrArg:=@congrArg
theorem QI:type_of% @beq_self_eq_true:=@beq_self_eq_true
def w04:type_of% @codeAny_mono:=@codeAny_mono
theorem w0j:type_of% @PyProof.Rows.F.plain_set_update_loop:=@PyProof.Rows.F.plain_set_update_loop
def w0k:type_of% @wpAny_truthy_bool:=@wpAny_truthy_bool
def w0n:type_of% @Calls.spliced_nil:=@Calls.spliced_nil
def w0o:type_of% @wpAny_newObj_type:=@wpAny_newObj_type
def w0r:type_of% @beq_eq_false_iff_ne:=@beq_eq_false_iff_ne
theorem w0A:type_of% @if_false:=@if_false
def w0U:type_of% @wpAny_execs_nil:=@wpAny_execs_nil
def w0V:type_of% @wpAny_passesOwn:=@wpAny_passesOwn
def w0Y:type_of% @pushCells_keeps:=@pushCells_keeps
def w1c:type_of% @wpS_mono:=@wpS_mono
def w1g:type_of% @wpAny_call:=@wpAny_call
def w1i:type_of% @Calls.callWith_builtin:=@Calls.callWith_builtin
theorem w1q:type_of% @if_true:=@if_true
def w1u:type_of% @F.called_set:=@F.called_set
def w1y:type_of% @listUpdate_at:=@listUpdate_at
def w1z:type_of% @Calls.evalArgs_plain:=@Calls.evalArgs_plain
def w1R:type_of% @wpAny_rule:=@wpAny_rule
def w1X:type_of% @wpAny_ite_split:=@wpAny_ite_split
def w21:type_of% @wpAny_field:=@wpAny_field
def w2c:type_of% @call_meets:=@call_meets
def w2d:type_of% @wpS_modify:=@wpS_modify
def w2j:type_of% @wpS_get:=@wpS_get
end
namespace Lake
open PySem PySem.Spec PyProof.Rows
abbrev Key:=Sum Int Str
noncomputable def z3J:Key->AC->Bool
 | .inl k,v=>Value.isInt k v
 | .inr x,v=>Value.isStrOf x v
noncomputable def zgD(w:Av):Key->Int
 | .inl k=>hashInt k
 | .inr x=>hashStr w x
theorem jE:∀{k:Key} {v:AC},z3J k v=true->(∃i t,k=Sum.inl i/\v=Value.int i t)\/(∃x t,k=Sum.inr x/\v=Value.str x t)
 | .inl i,v,h=>by
  obtain⟨t,e⟩:=Value.isInt_shape (k:=i) (v:=v) h;show .inl (i,t,rfl,e)
 | .inr x,v,h=>by
  obtain⟨t,e⟩:=Value.isStrOf_shape (x:=x) (v:=v) h;show .inr (x,t,rfl,e)
theorem zaB(i:Int)(t:Tok):z3J (.inl i) (.int i t)=true:=by simp[z3J,Value.isInt]
theorem zaF(x:Str)(t:Tok):z3J (.inr x) (.str x t)=true:=by simp[z3J,Value.isStrOf]
theorem zeQ(a b:Int):decide ((Sum.inl a:Key)=Sum.inl b)=(a == b):=by
 by_cases e:a=b
 .subst e;simp
 .have h:¬(Sum.inl a:Key)=Sum.inl b:=λq=>e (Sum.inl.inj q)
  rw[wL h];show(w0r.mpr e).symm
theorem zeX(a b:Str):decide ((Sum.inr a:Key)=Sum.inr b)=decide (a=b):=by
 by_cases e:a=b
 .subst e;simp
 .have h:¬(Sum.inr a:Key)=Sum.inr b:=λq=>e (Sum.inr.inj q)
  rw[wL h,wL e]
theorem zeR(a:Int)(b:Str):decide ((Sum.inl a:Key)=Sum.inr b)=false:=wL (λq=>nomatch q)
theorem zf4(a:Str)(b:Int):decide ((Sum.inr a:Key)=Sum.inl b)=false:=wL (λq=>nomatch q)
noncomputable def jC(prog:AM)(w:Av):PySem.KeyKind prog w Key where
 is:=z3J
 hash:=zgD w
 inj:=λv a b ha d=>by
  rcases jE ha with⟨i,t,rfl,rfl⟩|⟨x,t,rfl,rfl⟩
  .rcases jE d with⟨j,u,rfl,e⟩|⟨y,u,rfl,e⟩
   .injection e with e1 _;rw[e1]
   .exact nomatch e
  .rcases jE d with⟨j,u,rfl,e⟩|⟨y,u,rfl,e⟩
   .exact nomatch e
   .injection e with e1 _;rw[e1]
 byValue:=λk v h=>by
  rcases jE h with⟨i,t,rfl,rfl⟩|⟨x,t,rfl,rfl⟩<;>rfl
 pyHash:=λc h=>by
  rcases jE c with⟨i,t,rfl,rfl⟩|⟨x,t,rfl,rfl⟩
  .exact wpAny_pyHash_int h
  .exact wpAny_pyHash_str h
 eqBool:=λf c h=>by
  rcases jE f with⟨i,t,rfl,rfl⟩|⟨x,t,rfl,rfl⟩
  .rcases jE c with⟨j,u,rfl,rfl⟩|⟨y,u,rfl,rfl⟩
   .rw [zeQ]at h;show wpAny_eqBool_int h
   .rw [zeR]at h;show SeqAt.EqAt.int_str i t y u _ _ _ _ h
  .rcases jE c with⟨j,u,rfl,rfl⟩|⟨y,u,rfl,rfl⟩
   .rw [zf4]at h;show SeqAt.EqAt.str_int x t j u _ _ _ _ h
   .rw [zeX]at h;show wpAny_eqBool_str h
 «strs»:=λk x t v h=>by
  rcases jE h with⟨i,u,rfl,e⟩|⟨y,u,rfl,e⟩
  .exact nomatch e
  .injection e with e1 _
   subst e1;cases v<;>rfl
def z7L(prog:AM)(w:Av)(i:Int)(t:Tok):(jC prog w).is (.inl i) (.int i t)=true:=zaB i t
def z7Z(prog:AM)(w:Av)(x:Str)(t:Tok):(jC prog w).is (.inr x) (.str x t)=true:=zaF x t
inductive V where
 | non|bl (b:Bool)|int (i:Int)|str (x:Str)|byt (b:Array UInt8)|flt (b:UInt64)|ref (a:AD)|ty (n:String)
 deriving DecidableEq
def RelV:V->AC->Prop
 | .non,u=>u=Value.none
 | .bl b,u=>u=Value.bool b
 | .int i,u=>∃t,u=Value.int i t
 | .str x,u=>∃t,u=Value.str x t
 | .byt b,u=>∃t,u=Value.bytes b t
 | .flt b,u=>∃t,u=Value.float b t
 | .ref a,u=>u=Value.ref a
 | .ty n,u=>u=Value.type n
abbrev zS:List V->List AC->Prop:=Paired RelV
variable{xs:List V}{us:List AC}
theorem zS.length(r:zS xs us):xs.length=us.length:=Paired.length r
theorem zS.get:∀{xs:List V} {us:List AC} {i:Nat} {x:V},zS xs us->xs[i]? =AA x->∃u,us[i]? =AA u/\RelV x u
 | _,_,_,_,.nil,e=>by simp at e
 | _,_,0,_,.cons r _,e=>by simp at e;subst e;show(_,rfl,r)
 | _,_,i+1,x,.cons _ t,e=>by
  obtain⟨u,h1,h2⟩:=zS.get (i:=i) (x:=x) t (by simpa using e);show(u,by simpa using h1,h2)
variable{u:AC}{x:V}
theorem zS.set(r:RelV x u):∀{xs:List V} {us:List AC} (i:Nat),zS xs us->zS (xs.set i x) (us.set i u)
 | _,_,_,.nil=> .nil
 | _,_,0,.cons _ t=> .cons r t
 | _,_,i+1,.cons q t=> .cons q (zS.set r i t)
def zS.append:∀{xs ys:List V} {us ws:List AC},zS xs us->zS ys ws->zS (xs++ys) (us++ws)
 | _,_,_,_,.nil,s=>s
 | _,_,_,_,.cons r t,s=> .cons r (zS.append t s)
theorem zS.take:∀{xs:List V} {us:List AC} (n:Nat),zS xs us->zS (xs.take n) (us.take n)
 | _,_,0,_=> .nil
 | _,_,_+1,.nil=> .nil
 | _,_,n+1,.cons r t=> .cons r (zS.take n t)
theorem zS.drop:∀{xs:List V} {us:List AC} (n:Nat),zS xs us->zS (xs.drop n) (us.drop n)
 | _,_,0,r=>r
 | _,_,_+1,.nil=> .nil
 | _,_,n+1,.cons _ t=>zS.drop n t
def z1P:Option V->Option AC->Prop
 | some v,AA u=>RelV v u
 | none,AB=>True
 | _,_=>False
variable{κ:Type}
def KV:List (κ×V)->List (κ×AC)->Prop:=Paired λ(p:κ×V) (q:κ×AC)=>p.1=q.1/\RelV p.2 q.2
noncomputable def kV:Key->V
 | .inl i=> .int i
 | .inr x=> .str x
inductive HO where
 | lst (xs:List V)
 | tup (xs:List V)
 | dK (kvs:List (Key×V))|dT (kvs:List (List Key×V))
 | set (S:Int->Bool) (n:Nat)
 | ins (C dx:AD) (fs:List (Str×V))
 | own (x:AD)
 | xd (fs:List (Str×V))
 | met (f x:AD)
 | rng (lo hi:Int)
 | frz (o:Obj) (u:HO)
 | tbl (ps:Array AC)
 | ext (φ:AN->Prop)
abbrev Hp:=AD->Option HO
noncomputable def upd(H:Hp)(a:AD)(o:HO):Hp:=λb=>if b=a then AA o else H b
variable{H:Hp}{a:AD}{o:HO}
theorem zm:upd H a o a=AA o:=by unfold upd;rw[qc rfl]
variable{b:AD}
theorem zn(h:b≠a):upd H a o b=H b:=by unfold upd;rw[wW h]
theorem z1A{u:HO}:upd (upd H a o) a u=upd H a u:=by
 funext b;unfold upd;split<;>rfl
theorem z3K{u:HO}(h:H a=AA o)(h':H b=AA u)(d:o≠u):a≠b:=by
 intro e;subst e;rw[h]at h';show d (Option.some.inj h')
theorem zr(h:H a=AA o)(h':H b=AB):a≠b:=by
 intro e;subst e;rw[h]at h';cases h'
section
variable(P:AM)(w:Av)
def jh(H:Hp)(h:AN)(a:AD):HO->Prop
 | .lst xs=>xs.length<=AI/\∃(aa:List AC)(n:Nat),zS xs aa/\h.get? a=AA {cls:= .type "list",data:= .seq aa.toArray n}
 | .tup xs=>xs.length<=AI/\∃aa:List AC,zS xs aa/\IsTup h a aa.toArray
 | .dK kvs=>kvs.length<=AI/\(a == sysModules)=false/\∃vs,KV kvs vs/\h.DictOf (jC P w) a vs
 | .dT kvs=>kvs.length<=AI/\(a == sysModules)=false/\∃xs:List (List Key×AD×AC),
   Paired (λ(p:List Key×V) (q:List Key×AD×AC)=>p.1=q.1/\H q.2.1=AA (.tup (p.1.map kV))/\RelV p.2 q.2.2) kvs xs/\
   ∃o es ep,h.get? a=AA o/\o.ExactDict/\o.data= .dict es ep/\es.toList=xs.map (entryOfKey (tupleKind (jC P w)))/\(xs.map (·.1)).Nodup
 | .set S n=>h.SetOf (intKind P w) a S n
 | .ins C dx fs=>H dx=AA (.own a)/\fs.length<=1000/\dx≠a/\h.get? a=AA (PySem.W.instObj C dx)/\
   ∃mA,h.Ns1 dx mA/\(∀f,z1P (fs.lookup f) (mA f))/\PySem.Within mA (fs.map (·.1))
 | .own _=>∃o,h.get? a=AA o
 | .xd fs=>∃mA,h.Ns1 a mA/\∀f,z1P (fs.lookup f) (mA f)
 | .rng lo hi=>∃t u v,h.get? a=AA {cls:= .type "range",data:= .fields #[.int lo t,.int hi u,.int 1 v]}
 | .frz o u=>h.get? a=AA o/\jh H h a u
 | .tbl ps=>h.get? a=AA {cls:= .none,data:= .fields ps}
 | .met f x=>h.get? a=AA (PySem.W.methodObj (.ref f) (.ref x))
 | .ext φ=>φ h/\(∃o,h.get? a=AA o)/\∀h1 h2:AN,φ h1->(∀o,h1.get? a=AA o->h2.get? a=AA o)->φ h2
def HOk(H:Hp)(h:AN):Prop:=∀a o,H a=AA o->jh P w H h a o
end
variable{P:AM}{w:Av}{H':Hp}{h h':AN}
theorem jh.lt(x:jh P w H h a o):a<h.objs.size:=by
 cases o with
 | lst xs=>obtain⟨_,_,_,_,e⟩:=x;show wI e
 | tup xs=>obtain⟨_,_,_,p⟩:=x;show p.lt
 | dK kvs=>obtain⟨_,_,_,_,o,_,_,e,_⟩:=x;show wI e
 | dT kvs=>obtain⟨_,_,_,_,o,_,_,e,_⟩:=x;show wI e
 | set S n=>obtain⟨o,_,_,_,e,_⟩:=x;show wI e
 | ins C dx fs=>obtain⟨_,_,_,e,_⟩:=x;show wI e
 | own y=>obtain⟨_,e⟩:=x;show wI e
 | xd fs=>obtain⟨_,⟨_,_,_,e,_⟩,_⟩:=x;show wI e
 | rng lo hi=>obtain⟨_,_,_,e⟩:=x;show wI e
 | frz b u=>obtain⟨e,_⟩:=x;show wI e
 | tbl ps=>show wI (show h.get? a=AA _ from x)
 | met f y=>show wI (show h.get? a=AA _ from x)
 | ext φ=>obtain⟨_,⟨_,e⟩,_⟩:=x;show wI e
def Paired.mapP{α β:Type}{F G:α->β->Prop}:∀{l₁:List α} {l₂:List β},Paired F l₁ l₂->(∀a b,F a b->G a b)->Paired G l₁ l₂
 | _,_,.nil,_=> .nil
 | _,_,.cons r t,f=> .cons (f _ _ r) (Paired.mapP t f)
theorem jh.stay(x:jh P w H h a o)(k:∀b u,(b=a\/H b=AA (.own a))->h.get? b=AA u->h'.get? b=AA u)
  (j:∀b,H b=AA (.own a)->H' b=AA (.own a))(ht:∀b xs,H b=AA (.tup xs)->H' b=AA (.tup xs)):jh P w H' h' a o:=by
 induction o with
 | lst xs=>obtain⟨z,aa,n,r,e⟩:=x;show(z,aa,n,r,k _ _ (.inl rfl) e)
 | tup xs=>obtain⟨z,aa,r,i,e,c⟩:=x;show(z,aa,r,i,k _ _ (.inl rfl) e,c)
 | dK kvs=>obtain⟨z,y,vs,r,i,es,ep,e,c⟩:=x;show(z,y,vs,r,i,es,ep,k _ _ (.inl rfl) e,c)
 | dT kvs=>
  obtain⟨z,y,xs,r,i,es,ep,e,c⟩:=x;show(z,y,xs,Paired.mapP r λp q z=>(z.1,ht _ _ z.2.1,z.2.2),i,es,ep,k _ _ (.inl rfl) e,c)
 | set S n=>obtain⟨i,es,ep,t,e,c⟩:=x;show(i,es,ep,t,k _ _ (.inl rfl) e,c)
 | ins C dx fs=>
  obtain⟨d,z,ne,e,mA,⟨od,es,ep,l,c⟩,r⟩:=x;show(j _ d,z,ne,k _ _ (.inl rfl) e,mA,(od,es,ep,k _ _ (.inr d) l,c),r)
 | own y=>obtain⟨i,e⟩:=x;show(i,k _ _ (.inl rfl) e)
 | xd fs=>obtain⟨mA,⟨od,es,ep,e,c⟩,r⟩:=x;show(mA,(od,es,ep,k _ _ (.inl rfl) e,c),r)
 | rng lo hi=>obtain⟨t,u,v,e⟩:=x;show(t,u,v,k _ _ (.inl rfl) e)
 | frz i u s=>obtain⟨e,q⟩:=x;show(k _ _ (.inl rfl) e,s q)
 | tbl ps=>
  have e:h.get? a=AA {cls:= .none,data:= .fields ps}:=x
  change h'.get? a=AA {cls:= .none,data:= .fields ps}
  show k a _ (.inl rfl) e
 | met f y=>
  have e:h.get? a=AA (PySem.W.methodObj (.ref f) (.ref y)):=x
  change h'.get? a=AA (PySem.W.methodObj (.ref f) (.ref y))
  show k a _ (.inl rfl) e
 | ext φ=>obtain⟨p,⟨o,e⟩,st⟩:=x;show(st _ _ p λo q=>k _ _ (.inl rfl) q,(o,k _ _ (.inl rfl) e),st)
def HOk.lt(x:HOk P w H h)(e:H a=AA o):a<h.objs.size:=(x a o e).lt
theorem HOk.fresh(x:HOk P w H h)(e:h.objs.size<=a):H a=none:=by
 cases q:H a with
 | none=>rfl
 | some u=>show absurd (wM (x.lt q) e) (QF _)
def HOk.kept(x:HOk P w H h)(k:∀b u,h.get? b=AA u->h'.get? b=AA u):HOk P w H h':=λa o e=>
 (x a o e).stay (λb u v q=>k b u q) (λv q=>q) λv v q=>q
theorem HOk.laid(x:HOk P w H h)(k:∀b u,h.get? b=AA u->h'.get? b=AA u)(d:h.objs.size<=a)(new:jh P w (upd H a o) h' a o):HOk P w (upd H a o) h':=λb u e=>by
 have hn:=x.fresh d;by_cases hb:b=a
 .subst hb;rw[zm]at e;cases e;show new
 .rw [zn hb]at e;show(x b u e).stay (λc v t q=>k c v q) (λc q=>by rw[zn (zr q hn)];show q) λc xs q=>by rw[zn (zr q hn)];show q
def Rd(H:Hp)(a:AD)(u:HO):Prop:=H a=AA u\/∃o,H a=AA (.frz o u)
theorem Rd.ok{u:HO}(r:Rd H a u)(x:HOk P w H h):jh P w H h a u:=by
 rcases r with r|⟨o,r⟩
 .exact x a u r
 .obtain⟨_,q⟩:=x a _ r;show q
def Mut:Option HO->Prop
 | some (.lst _)=>True
 | some (.dK _)=>True
 | some (.dT _)=>True
 | some (.set _ _)=>True
 | some (.ins _ _ _)=>True
 | some (.ext _)=>True
 | _=>False
section
variable{x e:AD}{o':HO}
theorem HOk.write(ok:HOk P w H h)(a:Mut (H x))(he:e=x\/H e=AA (.own x))(k:∀b u,b≠e->h.get? b=AA u->h'.get? b=AA u)(i:∃u,h'.get? e=AA u)
  (new:jh P w (upd H x o') h' x o'):HOk P w (upd H x o') h':=λb u q=>by
 have d:∀c y,H c=AA (.own y)->c≠x:=λc y r z=>by subst z;rw[r]at a;show a
 have j:∀c xs,H c=AA (.tup xs)->c≠x:=λc xs r z=>by subst z;rw[r]at a;show a
 by_cases hb:b=x
 .subst hb;rw[zm]at q;cases q;show new
 .rw [zn hb]at q;by_cases fe:b=e
  .have q':H b=AA (.own x):=by
    rcases he with z|z
    .exact absurd (fe.trans z) hb
    .rw [fe];show z
   rw[q]at q';cases q';obtain⟨v,f⟩:=i;show(v,by rw[fe];show f)
  .refine(ok b u q).stay (λc v hc r=>k c v ?_ r) (λc r=>by rw[zn (d c b r)];show r) λc xs r=>by rw[zn (j c xs r)];show r
   rcases hc with rfl|hc
   .exact fe
   .rintro rfl;rcases he with z|z
    .exact d c b hc z
    .rw [hc]at z;cases z;show hb rfl
end
structure Un(fs ex:List AD)(H H':Hp)(h h':AN):Prop where
 keep:∀b o,h.get? b=AA o->H b=AB->b∉fs->b∉ex->h'.get? b=AA o
 slot:∀b o,h.get? b=AA o->H b=AB->b∈fs->b∉ex->∃sl,h'.get? b=AA {o with slots:=sl}
 free:∀b o,h.get? b=AA o->H b=AB->b∉ex->H' b=AB
 there:∀b o,h.get? b=AA o->b∉ex->∃o',h'.get? b=AA o'
 tups:∀b xs,H b=AA (.tup xs)->H' b=AA (.tup xs)
 frzs:∀b o u,H b=AA (.frz o u)->H' b=AA (.frz o u)
 tbls:∀b ps,H b=AA (.tbl ps)->∃more,H' b=AA (.tbl (ps++more))
section
variable{fs iU ex EK:List AD}{H1 H2:Hp}{h1 h2:AN}{x e:AD}
theorem Un.any(u:Un fs ex H H1 h h1){a:Obj}(q:h.get? b=AA a)(n:H b=AB)(c:b∉ex):∃d,h1.get? b=AA {a with slots:=d}:=by
 by_cases hb:b∈fs
 .exact u.slot b a q n hb c
 .exact(a.slots,u.keep b a q n hb c)
theorem Un.kept(k:∀b u,h.get? b=AA u->h'.get? b=AA u):Un fs ex H H h h':=
 (λb a q v v v=>k b a q,λb a q v v v=>(a.slots,k b a q),λv v v n v=>n,λb a q v=>(a,k b a q),λv v q=>q,λv v v q=>q,λv ps q=>(#[],by rw[q];simp))
def Un.refl:Un fs ex H H h h:=Un.kept λv v q=>q
theorem Un.laid(k:∀b u,h.get? b=AA u->h'.get? b=AA u)(c:h.objs.size<=a)(hn:H a=AB):Un fs ex H (upd H a o) h h' where
 keep:=λb u q v v v=>k b u q
 slot:=λb u q v v v=>(u.slots,k b u q)
 free:=λb u q n v=>by rw[zn (wS (wM (wI q) c))];show n
 there:=λb u q v=>(u,k b u q)
 tups:=λb xs q=>by rw[zn (zr q hn)];show q
 frzs:=λb u xs q=>by rw[zn (zr q hn)];show q
 tbls:=λb ps q=>(#[],by rw[zn (zr q hn),q];simp)
theorem Un.write(a:Mut (H x))(he:e=x\/H e=AA (.own x))(k:∀b u,b≠e->h.get? b=AA u->h'.get? b=AA u)(f:∃u,h'.get? e=AA u):Un fs ex H (upd H x o) h h':=by
 have c:∀b,H b=AB->b≠x:=λb n z=>by subst z;rw[n]at a;show a
 have d:∀b,H b=AB->b≠e:=λb n z=>by
  subst z;rcases he with r|r
  .exact c b n r
  .rw [n]at r;cases r
 have hm:∀b u,H b=AA u->¬Mut (AA u)->b≠x:=λb u q nm z=>by subst z;rw[q]at a;show nm a
 show(λb u q n v v=>k b u (d b n) q,λb u q n v v=>(u.slots,k b u (d b n) q),λb u q n v=>by rw[zn (c b n)];show n,λb u q v=>?_,
  λb xs q=>by rw[zn (hm b _ q λz=>z)];show q,λb u xs q=>by rw[zn (hm b _ q λz=>z)];show q,λb ps q=>(#[],by rw[zn (hm b _ q λz=>z),q];simp))
 by_cases fe:b=e
 .subst fe;show f
 .exact(u,k b u fe q)
end
noncomputable def trk(h:AN)(H:Hp):List Addr:=(List.range h.objs.size).filter λa=>(H a).isSome
noncomputable def z5h(h:AN)(H:Hp):Heap:=PySem.W.hideAll h (trk h H)
def zaW(h:AN)(H:Hp):(z5h h H).objs.size=h.objs.size:=PySem.W.hideAll_size _ _
theorem zcJ{o:Obj}(e:h.get? b=AA o)(n:H b=AB):(z5h h H).get? b=AA o:=
 PySem.W.hideAll_get _ e λhm=>by
  have q:(H b).isSome=true:=(List.mem_filter.mp hm).2;rw[n]at q;simp at q
theorem ze1{o:Obj}(e:(z5h h H).get? b=AA o):h.get? b=AA o/\H b=none:=by
 have a:h.get? b=AA o:=PySem.W.of_hideAll (trk h H) e;show(a,?_);cases q:H b with
 | none=>rfl
 | some x=>
  have hm:b∈trk h H:=List.mem_filter.mpr (w0g.mpr (wI a),by simp[q]);have z:(z5h h H).get? b=none:=PySem.W.hideAll_none (trk h H) hm;rw[z]at e;cases e
structure Mod(K:W.Frag)(mg:Str->Option AC)(base:AN):Prop where
 kin:K.In base
 glob:base.Ns AK mg
 blt:∃mb,base.Ns builtinsNs mb/\∀x:Str,x≠"__name__"->mb x=bootBuiltins x
 nolimit:base.NoLimit
set_option genInjectivity false in
structure Cx where
 prog:AM
 w:Av
 K:W.Frag
 mg:Str->Option AC
 base:AN
 A:Aj
 N:List Str
 s₀:AE
 H₀:Hp
 env:Env
 A3:List Env
 stack:List Env
 ex:List AD
 fn:Str->Bool
 calm:Bool
 pn:List (AD×Obj)
 xe:AC->AE->Prop
noncomputable def frs(l:List Env):List Addr:=l.filterMap (·.frame)
noncomputable abbrev Cx.fs(X:Cx):List Addr:=frs X.A3
def Vis(sc:Scope)(x:Str):Prop:=sc.names.lookup x=AA .local\/sc.names.lookup x=AA .cell\/sc.names.lookup x=AA .free
def Loc(sc:Scope)(x:Str):Prop:=sc.names.lookup x=AA .local\/sc.names.lookup x=AA .cell
def Look(env:Env)(h:AN)(m:Str->Option AC)(x:Str)(u:AC):Prop:=
 (env.kindOf x=AA .local/\m x=AA u)\/((env.kindOf x=AA .cell\/env.kindOf x=AA .free)/\∃c,env.cells.lookup x=AA c/\h.IsCell c (AA u))
structure Cx.Ok(X:Cx):Prop where
 mod:Mod X.K X.mg X.base
 kind:X.env.scope.kind= .function
 glob:X.env.globals=AK
 blt:X.env.builtins=builtinsNs
 above:X.s₀.heap.objs.size<=X.env.locals
 inj:∀x y c,X.env.cells.lookup x=AA c->X.env.cells.lookup y=AA c->x=y
 has:∀x,(X.env.kindOf x=AA .cell\/X.env.kindOf x=AA .free)->∃c,X.env.cells.lookup x=AA c
 cab:∀x c,X.fn x=true->X.env.cells.lookup x=AA c->X.s₀.heap.objs.size<=c
 hd:X.calm=true->X.A.handled=AB
 frames:X.A.frames=AA X.stack
 stk:X.stack=X.A3\/(X.stack=X.env::X.A3/\X.env.frame=AA X.env.locals)
 exf:∀b∈X.ex,b≠X.env.locals/\∀x c,X.env.cells.lookup x=AA c->c≠b
 bs:∀b o,X.base.get? b=AA o->X.s₀.heap.get? b=AA o/\X.H₀ b=AB
 bsz:X.base.objs.size<=X.s₀.heap.objs.size
 noex:∀b o,X.base.get? b=AA o->b∉X.ex
 exfs:∀b∈X.ex,b∉X.fs
 funs:X.s₀.heap.FunFrames X.base X.A3
 frf:∀b∈X.fs,X.H₀ b=AB
structure Inv(X:Cx)(A2:List (AD×Obj))(σ:List (Option V))(H:Hp)(s:AE):Prop where
 ok:X.Ok
 os:s.os=X.s₀.os
 bare:AllBare s.gens
 base:Un X.fs X.ex X.H₀ H X.s₀.heap s.heap
 loc:∃m,s.heap.Ns X.env.locals m/\∀(i:Nat)(x:Str)(v:V),X.N[i]? =AA x->σ[i]? =AA (AA v)->Vis X.env.scope x->∃u,RelV v u/\Look X.env s.heap m x u
 cell:∀x c,X.env.cells.lookup x=AA c->∃v,s.heap.IsCell c v
 free:H X.env.locals=AB
 freeC:∀x c,X.env.cells.lookup x=AA c->H c=AB
 pin:∀p∈X.pn++A2,s.heap.get? p.1=AA p.2/\H p.1=AB/\p.1≠X.env.locals/\p.1∉X.fs/\∀v,p.2.data≠ .cell v
 hok:HOk X.prog X.w H s.heap
 len:σ.length=X.N.length
variable{x:Str}{X:Cx}{A2:List (AD×Obj)}{s s':AE}{g':Array GenState}{t' i:Nat}{d':Drawn}{ch:List AD}{it:AD}{N:List Str}{M:Model}{A:Aj}{E:AC->AE->Prop}
section
variable{σ:List (Option V)}
theorem Cx.Ok.nofr(ok:X.Ok){o:Obj}(e:X.base.get? b=AA o):b∉X.fs:=λa=>by
 have:=(ok.funs.mem a).1;rw[e]at this;cases this
def Inv.bs(I:Inv X A2 σ H s):∀b o,X.base.get? b=AA o->s.heap.get? b=AA o/\H b=none:=λb o e=>
 (I.base.keep b o (I.ok.bs b o e).1 (I.ok.bs b o e).2 (I.ok.nofr e) (I.ok.noex b o e),I.base.free b o (I.ok.bs b o e).1 (I.ok.bs b o e).2 (I.ok.noex b o e))
def Inv.bk(I:Inv X A2 σ H s):∀b o,X.base.get? b=AA o->s.heap.get? b=AA o:=λb o e=>(I.bs b o e).1
def Inv.mod(I:Inv X A2 σ H s):Mod X.K X.mg X.base:=I.ok.mod
def Inv.kIn(I:Inv X A2 σ H s):X.K.In s.heap:=I.ok.mod.kin.keeps I.bk
def Inv.nolimit(I:Inv X A2 σ H s):s.heap.NoLimit:=I.ok.mod.nolimit.keeps I.bk
def Inv.lt(I:Inv X A2 σ H s):X.env.locals<s.heap.objs.size:=let ⟨_,hn,_⟩:=I.loc;hn.lt
def Inv.sz(I:Inv X A2 σ H s):X.s₀.heap.objs.size<=s.heap.objs.size:=wG I.ok.above (w1M I.lt)
theorem Inv.nofs(I:Inv X A2 σ H s)(h:s.heap.objs.size<=a):a∉X.fs:=λb=>by
 obtain⟨_,o,c,_⟩:=I.ok.funs.mem b;show absurd (wM (wI c) (wG I.sz h)) (QF _)
theorem Inv.cne(I:Inv X A2 σ H s):∀x c,X.env.cells.lookup x=AA c->c≠X.env.locals:=λx c e z=>by
 obtain⟨v,o,a,hd⟩:=I.cell x c e;obtain⟨m,⟨o',es,ep,b,d,_⟩,_⟩:=I.loc;rw[z,b]at a;cases a;rw[d]at hd;cases hd
theorem Inv.funs(I:Inv X A2 σ H s):s.heap.FunFrames X.base X.A3:=by
 have all:∀(l:List Env),(∀b∈frs l,b∈X.fs)->X.s₀.heap.FunFrames X.base l->s.heap.FunFrames X.base l:=by
  intro l
  induction l with
  | nil=>intro _ _;trivial
  | cons env r j=>
   intro hs hl;obtain⟨i,⟨L,o,d,hn,f,hd⟩,h⟩:=hl;have c:L∈X.fs:=hs L (by unfold frs;rw[List.filterMap_cons,d];show qI);obtain⟨n,e⟩:=I.base.slot L o f (I.ok.frf L c) c λz=>I.ok.exfs L z c
   show(i,(L,_,d,hn,e,hd),j (λb a=>hs b (by unfold frs;rw[List.filterMap_cons,d];show q5 _ a)) h)
 show all X.A3 (λv a=>a) I.ok.funs
theorem Inv.stack(I:Inv X A2 σ H s):s.heap.FunFrames X.base X.stack:=by
 rcases I.ok.stk with e|⟨e,a⟩
 .rw [e];show I.funs
 .rw [e];obtain⟨m,hn,_⟩:=I.loc;show .cons (by rw[I.ok.kind];decide) a hn ?_ I.funs;show Heap.get?_none_of_le (wG I.ok.bsz I.ok.above)
theorem Inv.stkSub(I:Inv X A2 σ H s):∀b∈frs X.stack,b∈X.env.locals::X.fs:=λb a=>by
 rcases I.ok.stk with e|⟨e,c⟩
 .rw [e]at a;show q5 _ a
 .rw [e]at a;unfold frs at a;rw[List.filterMap_cons,c]at a;show a
theorem Inv.stkFree(I:Inv X A2 σ H s):∀b∈frs X.stack,H b=none:=λb hb=>by
 rcases wF.mp (I.stkSub b hb)with e|hb
 .rw [e];show I.free
 .obtain⟨_,o,a,_⟩:=I.ok.funs.mem hb;show I.base.free b o a (I.ok.frf b hb) λz=>I.ok.exfs b z hb
theorem Inv.step(I:Inv X A2 σ H s)
  (t:∀b∈ch,(b∈X.ex\/X.s₀.heap.objs.size<=b)/\b≠X.env.locals/\(∀x c,X.env.cells.lookup x=AA c->c≠b)/\∀p∈X.pn++A2,p.1≠b)
  (keep:∀b o,b≠X.env.locals->b∉X.fs->b∉ch->s.heap.get? b=AA o->H b=AB->h'.get? b=AA o)
  (slot:∀b o,b≠X.env.locals->b∈X.fs->b∉ch->s.heap.get? b=AA o->H b=AB->∃C,h'.get? b=AA {o with slots:=C})(free:∀b o,b∉ch->s.heap.get? b=AA o->H b=AB->H' b=AB)
  (there:∀b o,b∉ch->s.heap.get? b=AA o->∃o',h'.get? b=AA o')
  (tups:∀b xs,H b=AA (.tup xs)->H' b=AA (.tup xs)) (frzs:∀b o u,H b=AA (.frz o u)->H' b=AA (.frz o u)) (tbls:∀b ps,H b=AA (.tbl ps)->∃more,H' b=AA (.tbl (ps++more)))
  (ns:∀m,s.heap.Ns X.env.locals m->h'.Ns X.env.locals m) (hok:HOk X.prog X.w H' h') (G:AllBare g'):
  Inv X A2 σ H' {s with heap:=h',gens:=g',drawn:=d',toks:=t'}:=by
 have neL:∀b o,X.s₀.heap.get? b=AA o->b≠X.env.locals:=λb o e=>wS (wM (wI e) I.ok.above)
 have B:∀b o,X.s₀.heap.get? b=AA o->b∉X.ex->b∉ch:=λb o e a h=>by
  rcases(t b h).1 with z|z
  .exact a z
  .exact absurd (wM (wI e) z) (QF _)
 have cellK:∀x c,X.env.cells.lookup x=AA c->∀v,s.heap.IsCell c v->h'.IsCell c v:=λx c e v ⟨o,j,hd⟩=>by
  have A:c∉ch:=λz=>(t c z).2.2.1 x c e rfl
  by_cases hc:c∈X.fs
  .obtain⟨C,q⟩:=slot c o (I.cne x c e) hc A j (I.freeC x c e);show(_,q,hd)
  .exact(o,keep c o (I.cne x c e) hc A j (I.freeC x c e),hd)
 show(I.ok,I.os,G,(λb o e n h a=>?_,λb o e n h a=>?_,λb o e n a=>?_,λb o e a=>?_,λb xs e=>tups b xs (I.base.tups b xs e),λb o xs e=>frzs b o xs (I.base.frzs b o xs e),λb ps e=>?_),?_,λx c e=>?_,?_,λx c e=>?_,λp D=>?_,hok,I.len)
 .exact keep b o (neL b o e) h (B b o e a) (I.base.keep b o e n h a) (I.base.free b o e n a)
 .obtain⟨C,f⟩:=I.base.slot b o e n h a;obtain⟨J,y⟩:=slot b _ (neL b o e) h (B b o e a) f (I.base.free b o e n a);show(J,y)
 .obtain⟨o',f⟩:=I.base.there b o e a;show free b o' (B b o e a) f (I.base.free b o e n a)
 .obtain⟨o',f⟩:=I.base.there b o e a;show there b o' (B b o e a) f
 .obtain⟨F,f⟩:=I.base.tbls b ps e;obtain⟨K,y⟩:=tbls b _ f;show(F++K,by rw[y,Array.append_assoc])
 .obtain⟨m,hn,hl⟩:=I.loc;show(m,ns m hn,λi x v f y E=>?_);obtain⟨u,r,l⟩:=hl i x v f y E;show(u,r,?_);rcases l with l|⟨k,c,e,z⟩
  .exact .inl l
  .exact .inr (k,c,e,cellK x c e _ z)
 .obtain⟨v,z⟩:=I.cell x c e;show(v,cellK x c e v z)
 .obtain⟨m,⟨o,_,_,j,_⟩,_⟩:=I.loc;show free _ o (λz=>(t _ z).2.1 rfl) j I.free
 .obtain⟨v,o,j,hd⟩:=I.cell x c e;show free c o (λz=>(t c z).2.2.1 x c e rfl) j (I.freeC x c e)
 .obtain⟨e,n,ne,nf,d⟩:=I.pin p D;have A:p.1∉ch:=λz=>(t p.1 z).2.2.2 p D rfl
  show(keep p.1 p.2 ne nf A e n,free p.1 p.2 A e n,ne,nf,d)
theorem Inv.un(I:Inv X A2 σ H s)(u:Un X.fs [] H H' s.heap h')(hok:HOk X.prog X.w H' h'):Inv X A2 σ H' {s with heap:=h',toks:=t'}:=by
 obtain⟨m,⟨o,es,ep,c,r⟩,_⟩:=id I.loc;obtain⟨l,f⟩:=u.any c I.free (by simp);show I.step (g':=s.gens) (d':=s.drawn) (ch:= []) (λv z=>nomatch z) (λb o v a v e n=>u.keep b o e n a (by simp)) (λb o v a v e n=>u.slot b o e n a (by simp)) (λb o v e n=>u.free b o e n (by simp)) (λb o v e=>u.there b o e (by simp)) u.tups u.frzs u.tbls (λj hm=>by
  obtain⟨o',i,h,d,r'⟩:=hm;rw[c]at d;cases d;show(_,i,h,f,r')) hok I.bare
theorem Inv.call(I:Inv X A2 σ H s)(u:Un (frs X.stack) ch H H' s.heap h')(hok:HOk X.prog X.w H' h')(j:AllBare g')
  (f:∀b∈ch,(b∈X.ex\/X.s₀.heap.objs.size<=b)/\b≠X.env.locals/\(∀x c,X.env.cells.lookup x=AA c->c≠b)/\∀p∈X.pn++A2,p.1≠b):
  Inv X A2 σ H' {s with heap:=h',gens:=g',drawn:=d',toks:=t'}:=by
 obtain⟨m,⟨o,es,ep,d,r⟩,_⟩:=id I.loc;obtain⟨y,a⟩:=u.any d I.free λz=>(f _ z).2.1 rfl
 show I.step (ch:=ch) f (λb o a i hc e n=>u.keep b o e n (λz=>(wF.mp (I.stkSub b z)).elim a i) hc) (λb o v v hc e n=>u.any e n hc) (λb o hc e n=>u.free b o e n hc) (λb o hc e=>u.there b o e hc) u.tups u.frzs u.tbls (λt hm=>by
  obtain⟨o',q,l,h,r'⟩:=hm;rw[d]at h;cases h;show(_,q,l,a,r')) hok j
theorem Inv.turned(I:Inv X A2 σ H s)(k:∀b o,b≠it->s.heap.get? b=AA o->h'.get? b=AA o)(hn:H it=AB)(d:it≠X.env.locals)
  (h1:it∈X.ex\/X.s₀.heap.objs.size<=it)(h2:∀x c,X.env.cells.lookup x=AA c->c≠it)(i:∀p∈X.pn++A2,p.1≠it):Inv X A2 σ H {s with heap:=h',toks:=t'}:=by
 have a:∀b u,H b=AA u->b≠it:=λb u e z=>by rw[z,hn]at e;cases e
 show I.step (g':=s.gens) (d':=s.drawn) (ch:= [it]) (λb f=>?_) (λb o t t hc e t=>k b o (λz=>hc (by simp[z])) e) (λb o t t hc e t=>(o.slots,k b o (λz=>hc (by simp[z])) e)) (λt t t t n=>n)
  (λb o hc e=>(o,k b o (λz=>hc (by simp[z])) e)) (λt t e=>e) (λt t t e=>e) (λb ps e=>(#[],by rw[e];simp)) (λm hm=>?_) (λb u e=>?_) I.bare
 .have e:b=it:=by simpa using f
  subst e;show(h1,d,h2,i)
 .obtain⟨o,es,ep,h,r⟩:=hm;show(o,es,ep,k _ o (w0K d) h,r)
 .refine(I.hok b u e).stay (λc v hc q=>k c v ?_ q) (λt q=>q) λt t q=>q
  rcases hc with z|z
  .rw [z];show a b u e
  .exact a c _ z
def Inv.tok(I:Inv X A2 σ H s)(t:Nat):Inv X A2 σ H {s with toks:=t}:=I.un (h':=s.heap) (t':=t) Un.refl I.hok
def Inv.kept(I:Inv X A2 σ H s)(k:∀b u,s.heap.get? b=AA u->h'.get? b=AA u):Inv X A2 σ H {s with heap:=h',toks:=t'}:=I.un (Un.kept k) (I.hok.kept k)
def Inv.laid(I:Inv X A2 σ H s)(k:∀b u,s.heap.get? b=AA u->h'.get? b=AA u)(c:s.heap.objs.size<=a)(new:jh X.prog X.w (upd H a o) h' a o):
  Inv X A2 σ (upd H a o) {s with heap:=h',toks:=t'}:=I.un (Un.laid k c (I.hok.fresh c)) (I.hok.laid k c new)
def Inv.write{x e:AD}(I:Inv X A2 σ H s)(c:Mut (H x))(he:e=x\/H e=AA (.own x))(k:∀b u,b≠e->s.heap.get? b=AA u->h'.get? b=AA u)(a:∃u,h'.get? e=AA u)
  (new:jh X.prog X.w (upd H x o) h' x o):Inv X A2 σ (upd H x o) {s with heap:=h',toks:=t'}:=I.un (Un.write c he k a) (I.hok.write c he k a new)
def Inv.pins_of{a:List (AD×Obj)}(I:Inv X A2 σ H s)(h:∀p∈a,s.heap.get? p.1=AA p.2/\H p.1=AB/\p.1≠X.env.locals/\p.1∉X.fs/\∀v,p.2.data≠ .cell v):Inv X a σ H s:=
 (I.ok,I.os,I.bare,I.base,I.loc,I.cell,I.free,I.freeC,λp b=>(wA.mp b).elim (λz=>I.pin p (qj _ z)) (h p),I.hok,I.len)
theorem z52(c:N.Nodup){j:Nat}(a:N[i]? =AA x)(b:N[j]? =AA x):i=j:=by
 obtain⟨h1,e⟩:=we.mp a;obtain⟨h2,d⟩:=we.mp b;show(List.getElem_inj c).mp (e.trans d.symm)
variable{Q:Unit->AE->Prop}
theorem z68{v:V}(I:Inv X A2 σ H s)(P:X.N.Nodup)(hi:X.N[i]? =AA x)(l:Loc X.env.scope x)(r:RelV v u)
  (h:∀s',Inv X A2 (σ.set i (AA v)) H s'->(∃a,Heap.SameBut a s.heap s'.heap/\(a=X.env.locals\/X.env.cells.lookup x=AA a))->Q () s')(hf:autoParam (X.fn x=true\/X.env.scope.names.lookup x=AA .local) z_a._auto_1):AT M A (storeName X.env x u) Q E s:=by
 obtain⟨m,hn,hl⟩:=(id I.loc);have dR:(X.env.scope.kind == .class||(X.env.scope.kind == .module&&X.env.locals != X.env.globals))=false:=by rw[I.ok.kind];rfl
 have hiσ:i<σ.length:=by rw[I.len];show(we.mp hi).1
 have cne:=I.cne;have tracked:∀{a:AD} {h':AN},(∃o,s.heap.get? a=AA o/\H a=AB)->Heap.SameBut a s.heap h'->HOk X.prog X.w H h':=λ{a h'} ha hs b U e=>by
  obtain⟨_,_,T⟩:=(ha);show(I.hok b U e).stay (λc C hc q=>(hs.2 c ?_).trans q) (λg q=>q) λg g q=>q
  rintro rfl;rcases hc with rfl|hc
  .rw [T]at e;cases e
  .rw [T]at hc;cases hc
 rcases l with hk|hk
 .refine wpAny_storeName_local hk hn (λh' Y hs=>?_) dR;obtain⟨oL,_,_,ck,_⟩:=(id hn);show h _ (I.ok,I.os,I.bare,(λb o e n B l=>?_,λb o e n B l=>?_,I.base.free,λb o e l=>?_,I.base.tups,I.base.frzs,I.base.tbls),(_,Y,λj y O f t F=>?_),λy c e=>?_,I.free,I.freeC,λp J=>?_,tracked (oL,ck,I.free) hs,by simpa using I.len) (_,hs,.inl rfl)
  .exact(hs.2 b (wS (wM (wI e) I.ok.above))).trans (I.base.keep b o e n B l)
  .obtain⟨K,f⟩:=I.base.slot b o e n B l;show(K,(hs.2 b (wS (wM (wI e) I.ok.above))).trans f)
  .obtain⟨o',f⟩:=I.base.there b o e l;show(o',(hs.2 b (wS (wM (wI e) I.ok.above))).trans f)
  .by_cases hj:j=i
   .subst hj;rw[hi]at f;cases f;rw[w0z hiσ]at t;cases t;show(u,r,.inl (hk,by simp))
   .rw [List.getElem?_set_ne (w0K hj)]at t;obtain⟨L,r',q⟩:=(hl j y O f t F);show(L,r',?_);rcases q with⟨k,e⟩|⟨k,c,e,z⟩
    .refine .inl (k,?_);have:y≠x:=λe=>hj (z52 P f (e ▸ hi))
     simp[this,e]
    .exact .inr (k,c,e,z.sameBut hs (cne y c e))
  .obtain⟨C,z⟩:=I.cell y c e;show(C,z.sameBut hs (cne y c e))
  .obtain⟨e,n,ne,nf,d⟩:=I.pin p J;show((hs.2 p.1 ne).trans e,n,ne,nf,d)
 .have G:X.fn x=true:=by
   rcases hf with z|z
   .exact z
   .rw [z]at hk;cases hk
  obtain⟨c,hc⟩:=I.ok.has x (.inl hk);obtain⟨C,z⟩:=I.cell x c hc;show wpAny_storeName_cell I.ok.kind hk hc z (λh' R hs=>?_);obtain⟨oc,S,Z⟩:=(id z);show h {s with heap:=h'} (I.ok,I.os,I.bare,(λb o e n B l=>?_,λb o e n B l=>?_,I.base.free,λb o e l=>?_,I.base.tups,I.base.frzs,I.base.tbls),(m,hn.sameBut hs (w0K (cne x c hc)),λj y O f t F=>?_),λy D e=>?_,I.free,I.freeC,λp J=>?_,tracked (oc,S,I.freeC x c hc) hs,by simpa using I.len) (c,hs,.inr hc)
  .exact(hs.2 b (wS (wM (wI e) (I.ok.cab x c G hc)))).trans (I.base.keep b o e n B l)
  .obtain⟨K,f⟩:=I.base.slot b o e n B l;show(K,(hs.2 b (wS (wM (wI e) (I.ok.cab x c G hc)))).trans f)
  .obtain⟨o',f⟩:=I.base.there b o e l;show(o',(hs.2 b (wS (wM (wI e) (I.ok.cab x c G hc)))).trans f)
  .by_cases hj:j=i
   .subst hj;rw[hi]at f;cases f;rw[w0z hiσ]at t;cases t;show(u,r,.inr (.inl hk,c,hc,R))
   .rw [List.getElem?_set_ne (w0K hj)]at t;obtain⟨L,r',q⟩:=(hl j y O f t F);show(L,r',?_);rcases q with q|⟨k,D,e,z'⟩
    .exact .inl q
    .refine .inr (k,D,e,z'.sameBut hs ?_);rintro rfl;show hj (z52 P f (I.ok.inj _ _ _ e hc ▸ hi))
  .by_cases i9:D=c
   .subst i9;show(_,R)
   .obtain⟨w2,z2⟩:=I.cell y D e;show(w2,z2.sameBut hs i9)
  .obtain⟨e,n,ne,nf,d⟩:=I.pin p J;show((hs.2 p.1 ?_).trans e,n,ne,nf,d);intro q;rw[q,S]at e;have q':oc=p.2:=Option.some.inj e;show d C (by rw[<-q'];show Z)
theorem z4N{v:V}(I:Inv X A2 σ H s)(c:X.N.Nodup)(hi:X.N[i]? =AA x)(b:Loc X.env.scope x)(r:RelV v u)
  (h:∀s',Inv X A2 (σ.set i (AA v)) H s'->Q () s')(d:autoParam (X.fn x=true\/X.env.scope.names.lookup x=AA .local) z_a._auto_1):AT M A (storeName X.env x u) Q E s:=
 z68 I c hi b r (λs' a t=>h s' a) d
theorem Inv.call'(I:Inv X A2 σ H s)(a:s'.os=s.os)(u:Un (frs X.stack) ch H H' s.heap s'.heap)(hok:HOk X.prog X.w H' s'.heap)(f:AllBare s'.gens)
  (d:∀b∈ch,(b∈X.ex\/X.s₀.heap.objs.size<=b)/\b≠X.env.locals/\(∀x c,X.env.cells.lookup x=AA c->c≠b)/\∀p∈X.pn++A2,p.1≠b):Inv X A2 σ H' s':=by
 obtain⟨h',g',d',t',o'⟩:=s';have e:o'=s.os:=a;subst e;show I.call (g':=g') (t':=t') (d':=d') u hok f d
end
abbrev XK:=AC->Option AD->Hp->Prop
abbrev St:=List (Option V)
abbrev VK:=V->Hp->Prop
abbrev TE:=St->Hp->VK->Prop
abbrev TT:=St->Hp->(Bool->Hp->Prop)->Prop
abbrev TA:=St->Hp->(List V->Hp->Prop)->Prop
structure Ends where
 nx:St->Hp->Prop
 rt:VK
 bk:St->Hp->Prop:=λ_ _=>False
 ct:St->Hp->Prop:=λ_ _=>False
abbrev TS:=Ends->St->Hp->Prop
def EP(X:Cx)(A2:List (AD×Obj))(σ:St)(Q:VK)(u:AC)(s':AE):Prop:=∃v H',Inv X A2 σ H' s'/\RelV v u/\Q v H'
def TP(X:Cx)(A2:List (AD×Obj))(σ:St)(Q:Bool->Hp->Prop)(b:Bool)(s':AE):Prop:=∃H',Inv X A2 σ H' s'/\Q b H'
def AP(X:Cx)(A2:List (AD×Obj))(σ:St)(Q:List V->Hp->Prop)(us:List AC)(s':AE):Prop:=∃vs H',Inv X A2 σ H' s'/\zS vs us/\Q vs H'
def SP(X:Cx)(A2:List (AD×Obj))(D:Ends)(f:Flow)(s':AE):Prop:=
 match f with
 | .next=>∃σ' H',Inv X A2 σ' H' s'/\D.nx σ' H'
 | .brk=>∃σ' H',Inv X A2 σ' H' s'/\D.bk σ' H'
 | .cont=>∃σ' H',Inv X A2 σ' H' s'/\D.ct σ' H'
 | .ret u=>∃v σ' H',Inv X A2 σ' H' s'/\RelV v u/\D.rt v H'
def PE(X:Cx)(e:Expr)(t:TE):Prop:=
 ∀(A2:List (AD×Obj))(s:AE)(σ:St)(H:Hp)(Q:VK),Inv X A2 σ H s->t σ H Q->AT (AV X.prog X.w) X.A (eval e X.env) (EP X A2 σ Q) X.xe s
def PT(X:Cx)(e:Expr)(t:TT):Prop:=
 ∀(A2:List (AD×Obj))(s:AE)(σ:St)(H:Hp)(Q:Bool->Hp->Prop),Inv X A2 σ H s->t σ H Q->AT (AV X.prog X.w) X.A (isTrue e X.env (eval e X.env)) (TP X A2 σ Q) X.xe s
def PW(X:Cx)(e:Expr)(t:TT):Prop:=
 ∀(whole:Sem AC)(A2:List (AD×Obj))(s:AE)(σ:St)(H:Hp)(Q:Bool->Hp->Prop),Inv X A2 σ H s->t σ H Q->AT (AV X.prog X.w) X.A (isTrue e X.env whole) (TP X A2 σ Q) X.xe s
variable{e:Expr}
def PW.pt{t:TT}(h:PW X e t):PT X e t:=h _
def PA(X:Cx)(es:List Expr)(t:TA):Prop:=
 ∀(pos:Pos)(A2:List (AD×Obj))(s:AE)(σ:St)(H:Hp)(Q:List V->Hp->Prop),Inv X A2 σ H s->t σ H Q->AT (AV X.prog X.w) X.A (spliced (backTo pos (AJ es X.env))) (AP X A2 σ Q) X.xe s
def PS(X:Cx)(st:Stmt)(t:TS):Prop:=
 ∀(A2:List (AD×Obj))(s:AE)(σ:St)(H:Hp)(D:Ends),Inv X A2 σ H s->t D σ H->AT (AV X.prog X.w) X.A (exec st X.env) (SP X A2 D) X.xe s
def PSs(X:Cx)(st:List Stmt)(t:TS):Prop:=
 ∀(A2:List (AD×Obj))(s:AE)(σ:St)(H:Hp)(D:Ends),Inv X A2 σ H s->t D σ H->AT (AV X.prog X.w) X.A (execs st X.env) (SP X A2 D) X.xe s
def thn{α:Type}{t:Sem α}{Q b:α->AE->Prop}(h:AT M A t Q E s)(c:∀a s,Q a s->b a s):AT M A t b E s:=qQ h c λv v x=>x
variable{Q:AC->AE->Prop}{pos:Pos}
section
def z6f(i:Nat):TE:=λσ H Q=>∃v,σ[i]? =AA (AA v)/\Q v H
def tC(v:V):TE:=λu H Q=>Q v H
theorem z2H(b:X.N[i]? =AA x)(d:Vis X.env.scope x)(hd:x∣0)(a: ~~~((x == ("__classdict__":Str))=false)):PE X (.Name x pos) (z6f i):=by
 intro A2 s σ H Q I h;obtain⟨v,e,h⟩:=h;obtain⟨m,hn,hl⟩:=I.loc;obtain⟨u,r,l⟩:=hl i x v b e d;have fin:EP X A2 σ Q u s:=(v,H,I,r,h);rcases l with⟨hk,hm⟩|⟨hk,c,hc,aO⟩
 .exact wpAny_Name (wpAny_loadName_local I.ok.kind hk hn hm fin) hd
 .rcases hk with hk|hk
  .exact wpAny_Name (wpAny_loadName_cell I.ok.kind hk hc aO fin) hd
  .exact wpAny_Name (wpAny_loadName_free I.ok.kind hk hc aO fin a) hd
def zd{i j pos}:PE X (.Constant (.int i) j pos) (tC (.int i)):=λv v v H v I h=>wpAny_Constant_int (.int i,H,I.tok _,(_,rfl),h)
def yn{b j pos}:PE X (.Constant (.bool b) j pos) (tC (.bl b)):=λv v v H v I h=>Constant_bool (.bl b,H,I,rfl,h)
def z1b{j pos}:PE X (.Constant .none j pos) (tC .non):=λv v v H v I h=>Constant_none (.non,H,I,rfl,h)
def zg{x j pos}:PE X (.Constant (.str x) j pos) (tC (.str x)):=λv v v H v I h=>Calls.Constant_str (.str x,H,I.tok _,(_,rfl),h)
def Gl(X:Cx)(x:Str):Prop:=X.env.kindOf x=AA .globalImplicit
theorem z14{σ:St}(I:Inv X A2 σ H s)(a:Gl X x)(hm:X.mg x=AA u)(h:Q u s)
  (hd:x∣0):AT (AV X.prog X.w) X.A (eval (.Name x pos) X.env) Q E s:=
 Calls.Name_function_global I.ok.kind a (Calls.loadGlobal_global (by rw[I.ok.glob];show I.mod.glob.keeps I.bk) hm h) hd
theorem z19{σ:St}(I:Inv X A2 σ H s)(a:Gl X x)(hm:X.mg x=AB)(b:bootBuiltins x=AA u)(h:Q u s)
  (hn: ~~~(x≠"__name__"))(hd:x∣0):AT (AV X.prog X.w) X.A (eval (.Name x pos) X.env) Q E s:=by
 obtain⟨c,h1,h2⟩:=I.mod.blt;show Calls.Name_function_global I.ok.kind a (Calls.loadGlobal_builtin (by rw[I.ok.glob];show I.mod.glob.keeps I.bk) hm (by rw[I.ok.blt];show h1.keeps I.bk) ((h2 x hn).trans b) h) hd
theorem kD{v:V}(a:Gl X x)(hm:X.mg x=AA u)(r:RelV v u)(hd:x∣0):PE X (.Name x pos) (tC v):=
 λt t t H t I h=>z14 I a hm (v,H,I,r,h) hd
theorem yK{v:V}(a:Gl X x)(hm:X.mg x=AB)(b:bootBuiltins x=AA u)(r:RelV v u)(hn: ~~~(x≠"__name__"))(hd:x∣0):PE X (.Name x pos) (tC v):=
 λt t t H t I h=>z19 I a hm b (v,H,I,r,h) hn hd
variable{a b:Expr}{ta tb:TE}
def tB(t:TE):TT:=λσ H Q=>t σ H λx H1=>∃c,x= .bl c/\Q c H1
theorem jj{t:TE}(h:PE X e t)(he:autoParam (∀whole,isTrue e X.env whole=(do let v<-whole;standAt e.pos;holding [v] (truthy v))) z_b._auto_1):PT X e (tB t):=by
 intro A2 s σ H Q I b;show isTrue_plain (thn (h A2 s σ H _ I b) ?_) (he _);rintro v f ⟨x,H1,a,r1,c⟩;obtain⟨d,rfl,q⟩:=c;cases r1;show w0k (H1,a,q)
variable{tA ff:TT}{rest:List Expr}
def zgR(t u:TT):TT:=λσ H Q=>t σ H λc H1=>if c=true then u σ H1 Q else Q false H1
def tOr(t u:TT):TT:=λσ H Q=>t σ H λc H1=>if c=true then Q true H1 else u σ H1 Q
def zgH(t:TT):TT:=λσ H Q=>t σ H λc H1=>Q (!c) H1
theorem z2m(ha:PT X a tA):PW X (.BoolOp .And [a] pos) tA:=by
 intro b A2 s σ H Q I h;show isTrue_and (thn (ha A2 s σ H Q I h) λc d e=>?_);cases c with
 | true=>show isTrue_and_nil e
 | false=>show e
theorem zeP(ha:PT X a tA):PW X (.BoolOp .Or [a] pos) tA:=by
 intro b A2 s σ H Q I h;show isTrue_or (thn (ha A2 s σ H Q I h) λc d e=>?_);cases c with
 | false=>show isTrue_or_nil e
 | true=>show e
theorem z24(ha:PT X a tA)(f:PW X (.BoolOp .And (b::rest) pos) ff):PW X (.BoolOp .And (a::b::rest) pos) (zgR tA ff):=by
 intro i A2 s σ H Q I h;show isTrue_and (thn (ha A2 s σ H _ I h) ?_);rintro c j ⟨H1,e,d⟩;cases c with
 | true=>show f i A2 j σ H1 Q e d
 | false=>show(H1,e,d)
theorem zfM(ha:PT X a tA)(f:PW X (.BoolOp .Or (b::rest) pos) ff):PW X (.BoolOp .Or (a::b::rest) pos) (tOr tA ff):=by
 intro i A2 s σ H Q I h;show isTrue_or (thn (ha A2 s σ H _ I h) ?_);rintro c j ⟨H1,e,d⟩;cases c with
 | true=>show(H1,e,d)
 | false=>show f i A2 j σ H1 Q e d
theorem kh(ha:PT X a tA):PT X (.UnaryOp .Not a pos) (zgH tA):=by
 intro A2 s σ H Q I h;show isTrue_not (ha A2 s σ H (λc H1=>Q (!c) H1) I h)
def zh1(ta tb:TE):TE:=λσ H Q=>ta σ H λx H1=>∃c,x= .bl c/\if c=true then Q (.bl true) H1 else tb σ H1 Q
def zfW(ta:TE):TE:=λσ H Q=>ta σ H λx H1=>∃c,x= .bl c/\Q (.bl (!c)) H1
def zf8{op}{t:TE}(h:PE X a t):PE X (.BoolOp op [a] pos) t:=λA2 s σ H Q I b=>BoolOp_one (h A2 s σ H Q I b)
theorem zg1(ha:PE X a ta)(f:PE X (.BoolOp .Or (b::rest) pos) tb):PE X (.BoolOp .Or (a::b::rest) pos) (zh1 ta tb):=by
 intro A2 s σ H Q I h;show BoolOp_or (thn (ha A2 s σ H _ I h) ?_);rintro v i ⟨x,H1,e,r1,d⟩;obtain⟨c,rfl,d⟩:=d;cases r1;show w0k ?_;cases c with
 | false=>show f A2 i σ H1 Q e d
 | true=>show(.bl true,H1,e,rfl,d)
theorem z8O(ha:PE X a ta):PE X (.UnaryOp .Not a pos) (zfW ta):=by
 intro A2 s σ H Q I h;show UnaryOp_ (thn (ha A2 s σ H _ I h) ?_);rintro v e ⟨x,H1,d,r1,b⟩;obtain⟨c,rfl,b⟩:=b;cases r1;show not_of (w0k (.bl (!c),H1,d,rfl,b))
end
def SqL(K:W.Frag)(H:Hp)(a:AD)(xs:List V):Prop:=
 Rd H a (.lst xs)\/
  ∃(o:Obj)(aa:Array AC)(n:Nat),K.lookup a=AA o/\o.cls= .type "list"/\o.dict=AB/\o.data= .seq aa n/\aa.size<=AI/\zS xs aa.toList
def SqT(K:W.Frag)(H:Hp)(a:AD)(xs:List V):Prop:=
 Rd H a (.tup xs)\/
  ∃(o:Obj)(aa:Array AC)(n:Nat),K.lookup a=AA o/\o.cls= .type "tuple"/\o.data= .seq aa n/\aa.size<=AI/\zS xs aa.toList
noncomputable def zgs:AC->Option V
 | .none=>AA .non
 | .bool b=>AA (.bl b)
 | .int i _=>AA (.int i)
 | .str x _=>AA (.str x)
 | .bytes b _=>AA (.byt b)
 | .float b _=>AA (.flt b)
 | .ref a=>AA (.ref a)
 | .type n=>AA (.ty n)
 | _=>AB
theorem RelV.abs{x:V}(r:RelV x u):zgs u=AA x:=by
 cases x with
 | non=>cases r;rfl
 | bl _=>cases r;rfl
 | int _=>obtain⟨t,rfl⟩:=r;rfl
 | str _=>obtain⟨t,rfl⟩:=r;rfl
 | byt _=>obtain⟨t,rfl⟩:=r;rfl
 | flt _=>obtain⟨t,rfl⟩:=r;rfl
 | ref _=>cases r;rfl
 | ty _=>cases r;rfl
variable{y:V}
theorem RelV.inj{x:V}(r:RelV x u)(q:RelV y u):x=y:=Option.some.inj (r.abs.symm.trans q.abs)
theorem zS.inj:∀{xs ys:List V} {us:List AC},zS xs us->zS ys us->xs=ys
 | _,_,_,.nil,.nil=>rfl
 | _,_,_,.cons r t,.cons r' t'=>by rw[r.inj r',zS.inj t t']
section
variable{σ:St}{ys:List V}
def SqL.of{K:W.Frag}(h:H a=AA (.lst xs)):SqL K H a xs:= .inl (.inl h)
def SqT.of{K:W.Frag}(h:H a=AA (.tup xs)):SqT K H a xs:= .inl (.inl h)
theorem Inv.list(I:Inv X A2 σ H s)(h:SqL X.K H a xs):∃aa:List AC,zS xs aa/\PlainL s.heap a aa.toArray/\xs.length<=sizeLine:=by
 rcases h with h|⟨o,aa,n,b,hc,hd,hs,hz,r⟩
 .obtain⟨z,aa,n,r,e⟩:=h.ok I.hok;show(aa,r,(_,n,e,rfl,rfl,rfl),z)
 .refine(aa.toList,r,(o,n,I.kIn a o b,hc,hd,by simpa using hs),?_);have e:=r.length;simp only[QJ]at e
  lia
theorem Inv.tuple(I:Inv X A2 σ H s)(h:SqT X.K H a xs):∃aa:List AC,zS xs aa/\IsTup s.heap a aa.toArray/\xs.length<=sizeLine:=by
 rcases h with h|⟨o,aa,n,b,hc,hs,hz,r⟩
 .obtain⟨z,aa,r,p⟩:=h.ok I.hok;show(aa,r,p,z)
 .refine(aa.toList,r,(o,I.kIn a o b,hc,n,by simpa using hs),?_);have e:=r.length;simp only[QJ]at e
  lia
theorem Inv.list_inj(I:Inv X A2 σ H s)(h:SqL X.K H a xs)(h':SqL X.K H a ys):xs=ys:=by
 obtain⟨aa,r,⟨o,n,e,_,_,d⟩,_⟩:=I.list h;obtain⟨its',r',⟨o',c,b,_,_,d'⟩,_⟩:=I.list h';rw[e]at b;cases b;rw[d]at d'
 injection d' with d1 _
 have:aa=its':=by simpa using QG Array.toList d1
 subst this;show r.inj r'
theorem Inv.tuple_inj(I:Inv X A2 σ H s)(h:SqT X.K H a xs)(h':SqT X.K H a ys):xs=ys:=by
 obtain⟨aa,r,⟨o,e,_,n,d⟩,_⟩:=I.tuple h;obtain⟨its',r',⟨o',b,_,c,d'⟩,_⟩:=I.tuple h';rw[e]at b;cases b;rw[d]at d'
 injection d' with d1 _
 have:aa=its':=by simpa using QG Array.toList d1
 subst this;show r.inj r'
end
noncomputable abbrev Cx.wish(X:Cx)(E:AC->AE->Prop):Cx:={X with xe:=E}
noncomputable abbrev Cx.nox(X:Cx):Cx:=X.wish λv v=>False
theorem Cx.Ok.wish(ok:X.Ok)(E:AC->AE->Prop):(X.wish E).Ok:=
 (ok.mod,ok.kind,ok.glob,ok.blt,ok.above,ok.inj,ok.has,ok.cab,ok.hd,ok.frames,ok.stk,ok.exf,ok.bs,ok.bsz,ok.noex,ok.exfs,ok.funs,ok.frf)
def Cx.Ok.unwish(ok:(X.wish E).Ok):X.Ok:=
 (ok.mod,ok.kind,ok.glob,ok.blt,ok.above,ok.inj,ok.has,ok.cab,ok.hd,ok.frames,ok.stk,ok.exf,ok.bs,ok.bsz,ok.noex,ok.exfs,ok.funs,ok.frf)
variable{D:Ends}
section
variable{σ:St}
theorem Inv.wish(I:Inv X A2 σ H s)(E:AC->AE->Prop):Inv (X.wish E) A2 σ H s:=(I.ok.wish E,I.os,I.bare,I.base,I.loc,I.cell,I.free,I.freeC,I.pin,I.hok,I.len)
def Inv.unwish(I:Inv (X.wish E) A2 σ H s):Inv X A2 σ H s:=(I.ok.unwish,I.os,I.bare,I.base,I.loc,I.cell,I.free,I.freeC,I.pin,I.hok,I.len)
theorem SP.unwish{f:Flow}(h:SP (X.wish E) A2 D f s'):SP X A2 D f s':=by
 cases f with
 | next=>obtain⟨σ',H',I,q⟩:=h;show(σ',H',I.unwish,q)
 | brk=>obtain⟨σ',H',I,q⟩:=h;show(σ',H',I.unwish,q)
 | cont=>obtain⟨σ',H',I,q⟩:=h;show(σ',H',I.unwish,q)
 | ret u=>obtain⟨v,σ',H',I,r,q⟩:=h;show(v,σ',H',I.unwish,r,q)
theorem PSs.nox{st:List Stmt}{t:TS}(h:PSs X.nox st t):PSs X st t:=λA2 s σ H D I a=>
 qQ (h A2 s σ H D (I.wish _) a) (λv v q=>q.unwish) λv v z=>False.elim z
end
variable{c:Expr}{tc:TT}
section
variable{st:Stmt}{rest:List Stmt}{t u:TS}{te:TE}
def z2z:TS:=λD σ H=>D.nx σ H
def z1y(t u:TS):TS:=λD σ H=>t {D with nx:=u D} σ H
def zv:PSs X [] z2z:=λv v σ H v I h=>w0U (σ,H,I,h)
theorem zc(h1:PS X st t)(h2:PSs X rest u):PSs X (st::rest) (z1y t u):=by
 intro A2 s σ H D I h;show wpAny_execs_cons (thn (h1 A2 s σ H {D with nx:=u D} I h) λf b q=>?_);cases f with
 | next=>
  obtain⟨σ',H',a,q⟩:=q;show h2 A2 b σ' H' D a q
 | ret v=>show q
 | brk=>show q
 | cont=>show q
theorem zf(h1:PS X st t):PSs X [st] t:=by
 intro A2 s σ H D I h;show wpAny_execs_cons (thn (h1 A2 s σ H D I h) λf a q=>?_);cases f with
 | next=>show w0U q
 | ret v=>show q
 | brk=>show q
 | cont=>show q
def zdy:PS X (.Pass pos) z2z:=λv v σ H v I h=>wpAny_Pass (σ,H,I,h)
theorem Inv.quiet{σ:St}(I:Inv X A2 σ H s):interactive X.env=false:=by simp[interactive,I.ok.kind]
def zfy(te:TE):TS:=λD σ H=>te σ H λv H1=>D.nx σ H1
theorem jb(he:PE X e te)(hs:(swapsWith e AB pos.line X.env=pure false)⁻¹):PS X (.Expr e pos) (zfy te):=by
 intro A2 s σ H D I h;show wpAny_Expr_any (thn (he A2 s σ H _ I h) λv c ⟨x,H1,b,r1,a⟩=>(σ,H1,b,a)) I.quiet hs
def zgN(te:TE):TS:=λD σ H=>te σ H D.rt
theorem zt(he:PE X e te):PS X (.Return (AA e) pos) (zgN te):=by
 intro A2 s σ H D I h;show wpAny_Return_some (thn (he A2 s σ H _ I h) λv c ⟨x,H1,b,r1,a⟩=>(x,σ,H1,b,r1,a))
def z6S(c:TT)(t u:TS):TS:=λD σ H=>c σ H λb H1=>if b=true then t D σ H1 else u D σ H1
theorem zG{a b:List Stmt}(hc:PT X c tc)(ha:PSs X a t)(j:PSs X b u):PS X (.If c a b pos) (z6S tc t u):=by
 intro A2 s σ H D I h;show wpAny_If (thn (hc A2 s σ H _ I h) ?_);rintro d i ⟨H1,f,e⟩;cases d with
 | true=>show ha A2 i σ H1 D f e
 | false=>show j A2 i σ H1 D f e
end
abbrev TG:=V->St->Hp->(St->Hp->Prop)->Prop
abbrev TGs:=List V->St->Hp->(St->Hp->Prop)->Prop
def PG(X:Cx)(target:Expr)(t:TG):Prop:=
 ∀(A2:List (AD×Obj))(s:AE)(σ:St)(H:Hp)(v:V)(u:AC)(Q:St->Hp->Prop),Inv X A2 σ H s->RelV v u->t v σ H Q->
  AT (AV X.prog X.w) X.A (assign target X.env u) (λy s'=>∃σ' H',Inv X A2 σ' H' s'/\Q σ' H') X.xe s
def PGs(X:Cx)(a:List Expr)(t:TGs):Prop:=
 ∀(A2:List (AD×Obj))(s:AE)(σ:St)(H:Hp)(vs:List V)(us:List AC)(Q:St->Hp->Prop),Inv X A2 σ H s->zS vs us->t vs σ H Q->
  AT (AV X.prog X.w) X.A (assignInOrder ((assignEach a X.env).map (·.2)) us) (λv s'=>∃σ' H',Inv X A2 σ' H' s'/\Q σ' H') X.xe s
abbrev zfh:=V->V->V->Hp->(Hp->Prop)->Prop
def zg2(X:Cx)(t:zfh):Prop:=
 ∀(A2:List (AD×Obj))(s:AE)(σ:St)(H:Hp)(o i v:V)(b a u:AC)(Q:Hp->Prop),Inv X A2 σ H s->RelV o b->RelV i a->RelV v u->t o i v H Q->
  AT (AV X.prog X.w) X.A (setItem b a u) (λy s'=>∃H',Inv X A2 σ H' s'/\Q H') X.xe s
variable{es:List Expr}{n:Nat}{tg:Expr}
def z1L(i:Nat):TG:=λv σ H Q=>Q (σ.set i (AA v)) H
theorem z0E(c:X.N.Nodup)(hi:X.N[i]? =AA x)(b:Loc X.env.scope x)(d:autoParam (X.fn x=true\/X.env.scope.names.lookup x=AA .local) z_a._auto_1):PG X (.Name x pos) (z1L i):=by
 intro A2 s σ H v u Q I r h;show wpAny_assign_Name (z4N I c hi b r (λs' a=>(_,H,a,h)) d)
def zer:TGs:=λvs σ H Q=>vs= []/\Q σ H
def z7i(t:TG)(u:TGs):TGs:=λvs σ H Q=>∃v r,vs=v::r/\t v σ H λσ' H'=>u r σ' H' Q
theorem z9Q:PGs X [] zer:=by
 intro A2 s σ H vs us Q I r h;obtain⟨e,h⟩:=h;subst e;cases r;show assignInOrder_nil (σ,H,I,h)
theorem z2V{t:TG}{u:TGs}(h1:PG X e t)(h2:PGs X es u)
  (hs:((assignEach (e::es) X.env).map (·.2)=assign e X.env::(assignEach es X.env).map (·.2))⁻¹):PGs X (e::es) (z7i t u):=by
 intro A2 s σ H vs us Q I r h;obtain⟨v,i,b,h⟩:=h;subst b;cases r with
 | cons r c=>
  rw[hs];show assignInOrder_cons (thn (h1 A2 s σ H _ _ _ I r h) ?_);rintro _ f ⟨σ1,H1,a,d⟩;show h2 A2 f σ1 H1 _ _ Q a c d
def zeW(K:W.Frag)(n:Nat)(t:TGs):TG:=λv σ H Q=>∃a xs,v= .ref a/\SqT K H a xs/\xs.length=n/\t xs σ H Q
theorem zb7{k:Nat}{t:TGs}(hc:X.calm=true)(h:PGs X es t)
  (hn:((assignEach es X.env).length=n)⁻¹)(p:((assignEach es X.env).findIdx? (·.1)=AB)⁻¹):PG X (.Tuple es k pos) (zeW X.K n t):=by
 intro A2 s σ H v u Q I r c;obtain⟨a,xs,i,l,hl,c⟩:=(c);subst i;cases r;obtain⟨aa,d,ht,hz⟩:=(I.tuple l);show assign_Tuple_tuple (I.ok.hd hc) ht (by simp[hn,<-hl,d.length]) p λh' j=>?_
 have f:Inv X A2 σ H {s with heap:=h'}:=I.kept (t':=s.toks) λb o e=>j b o (wS (wI e)) e
 show h A2 _ σ H xs _ Q f (by simpa using d) c
def zgv(to a:TE)(t:zfh):TG:=λv σ H Q=>to σ H λo H1=>a σ H1 λi H2=>t o i v H2 λb=>Q σ b
theorem z8W{o i:Expr}{to c:TE}{t:zfh}(d:PE X o to)(hi:PE X i c)(hs:zg2 X t)
  (ha:autoParam (∀v,assign (.Subscript o i pos) X.env v=(do
   let a<-holding [v] (eval o X.env)
   let b<-holding [v,a] (eval i X.env)
   standAt pos
   holding [v,a,b] (setItem a b v)
   release [v,a,b] [])) z_b._auto_1):PG X (.Subscript o i pos) (zgv to c t):=by
 intro A2 s σ H v u Q I r h;rw[ha];show wu (Qo (thn (d A2 s σ H _ I h) ?_));rintro a z ⟨x,H1,e,r1,n⟩;show wu (Qo (thn (hi A2 z σ H1 _ e n) ?_));rintro b w ⟨y,H2,j,r2,l⟩;show wu (wpAny_standAt (wu (Qo (thn (hs A2 w σ H2 x y v a b u _ j r1 r2 r l) ?_))));rintro _ A ⟨f,p,q⟩;show wpAny_release (σ,f,p,q)
def zdm(te:TE)(g:TG):TS:=λD σ H=>te σ H λx H1=>g x σ H1 D.nx
theorem z8K{te:TE}{g:TG}(he:PE X e te)(b:PG X tg g)(hs:(swapsWithSole [tg] e pos.line X.env=pure false)⁻¹)(c:(swappedStores [tg] e X.env=pure AB)⁻¹)
  (h1:((assignEach [tg] X.env).map (·.2)= [assign tg X.env])⁻¹):PS X (.Assign [tg] e pos) (zdm te g):=by
 intro A2 s σ H D I h;show wpAny_Assign_stores (thn (he A2 s σ H _ I h) ?_) hs c;rintro v f ⟨x,H1,a,r1,d⟩;rw[h1];show thn (b A2 f σ H1 x v _ a r1 d) λu i q=>q
theorem yU{te:TE}{pos':Pos}(b:X.N.Nodup)(hi:X.N[i]? =AA x)(f:Loc X.env.scope x)(he:PE X e te)(hs:(swapsWith e (AA (.Name x pos')) pos.line X.env=pure false)⁻¹)(d:autoParam (X.fn x=true\/X.env.scope.names.lookup x=AA .local) z_a._auto_1):
  PS X (.Assign [.Name x pos'] e pos) (zdm te (z1L i)):=by
 intro A2 s σ H D I h;show wpAny_Assign_Name (thn (he A2 s σ H _ I h) ?_) hs;rintro v n ⟨y,H1,a,r1,j⟩;show z4N a b hi f r1 (λl c=>(_,H1,c,j)) d
variable{body:List Stmt}{tb:TS}
def z1G(c:TT)(tb:TS):TS:=λD σ H=>∃W:Nat->St->Hp->Prop,(∃m,W m σ H)/\∀m σ H,W m σ H->
 c σ H λb H1=>if b=true then∃N:St->Hp->Prop,(∀σ' H',N σ' H'->∃a,a<m/\W a σ' H')/\tb {D with nx:=N,ct:=N,bk:=D.nx} σ H1 else D.nx σ H1
theorem z4P(p:PassesOwn (AV X.prog X.w) X.A X.env X.xe)(hc:PT X c tc)(r:PSs X body tb):PS X (.While c body [] pos) (z1G tc tb):=by
 intro A2 s σ H D I h;obtain⟨W,⟨u,w0⟩,turn⟩:=(h);show wpAny_While (codeAny_whileLoop (λn s'=>∃σ' H',Inv X A2 σ' H' s'/\W n σ' H') ?_ u (σ,H,I,w0));intro n y zz;obtain⟨σ1,H1,t,w1⟩:=(zz);show w0V p (thn (hc A2 y σ1 H1 _ t (turn n σ1 H1 w1)) ?_);intro b x zz;obtain⟨H2,q,d⟩:=(zz);cases b with
 | true=>
  obtain⟨N,o,d⟩:=(d);rw[qc rfl];show w0V p (thn (r A2 x σ1 H2 _ q d) λf z e=>?_);cases f with
  | next=>
   obtain⟨σ3,a,l,i⟩:=(e);obtain⟨j,hm,w3⟩:=(o σ3 a i);show(j,hm,σ3,a,l,w3)
  | cont=>
   obtain⟨σ3,a,l,i⟩:=(e);obtain⟨j,hm,w3⟩:=(o σ3 a i);show(j,hm,σ3,a,l,w3)
  | brk=>show e
  | ret v=>show e
 | false=>
  rw[wW wQ];show w0U (σ1,H2,q,d)
structure It where
 go:Nat->Hp->Prop
 yld:Nat->Hp->V->Hp->Prop
 stop:Nat->Hp->Prop
def z3Y(X:Cx)(A2:List (AD×Obj))(H:Hp)(b:AD):Prop:=
 H b=AB/\b≠X.env.locals/\b∉X.fs/\(b∈X.ex\/X.s₀.heap.objs.size<=b)/\(∀x c,X.env.cells.lookup x=AA c->c≠b)/\∀p∈X.pn++A2,p.1≠b
variable{σ:St}
theorem Inv.fpOk(I:Inv X A2 σ H s)(a:s.heap.objs.size<=b)(hn:H' b=AB):z3Y X A2 H' b:=by
 show(hn,Qv (wM I.lt a),I.nofs a,.inr (wG I.sz a),λx c e z=>?_,λp d z=>?_)
 .obtain⟨v,q⟩:=I.cell x c e;show absurd (wM q.lt (by rw[z];show a)) (QF _)
 .exact absurd (wM (wI (I.pin p d).1) (by rw[z];show a)) (QF _)
structure Turn(P:AM)(w:Av)(K:W.Frag)(tg:Expr)(J:It)(fp:List AD)(it:AD)(tn:Nat->AN->Prop):Prop where
 mem:it∈fp
 obj:∀i h,tn i h->∀b∈fp,∃o,h.get? b=AA o/\∀v,o.data≠ .cell v
 keep:∀i h h',tn i h->(∀b∈fp,∀o,h.get? b=AA o->h'.get? b=AA o)->tn i h'
 item:∀(X:Cx),X.prog=P->X.w=w->X.K=K->X.calm=true->∀(i:Nat)(A2:List (AD×Obj))(s:AE)(σ:St)(H:Hp)(E:AC->AE->Prop),Inv X A2 σ H s->(∀b∈fp,z3Y X A2 H b)->tn i s.heap->J.go i H->
  AT (AV P w) X.A (pyNext (.ref it)) (λr s1=>∃u,r=AA u/\
   AT (AV P w) X.A (letOwnedTupleGo tg (.ref it) u) (λ_ s2=>∃x H',Inv X A2 σ H' s2/\RelV x u/\J.yld i H x H'/\tn (i+1) s2.heap/\∀b∈fp,H' b=AB) E s1) E s
 done:∀(X:Cx),X.prog=P->X.w=w->X.K=K->X.calm=true->∀(i:Nat)(A2:List (AD×Obj))(s:AE)(σ:St)(H:Hp)(E:AC->AE->Prop),Inv X A2 σ H s->(∀b∈fp,z3Y X A2 H b)->tn i s.heap->J.stop i H->
  AT (AV P w) X.A (pyNext (.ref it)) (λr s1=>r=AB/\Inv X A2 σ H s1) E s
 self:∀(A:Aj)(i:Nat)(s:AE)(Q:AC->AE->Prop)(E:AC->AE->Prop),tn i s.heap->Q (.ref it) s->AT (AV P w) A (pyIter (.ref it)) Q E s
abbrev TI:=St->Hp->(It->Hp->Prop)->Prop
def PIE(X:Cx)(A2:List (AD×Obj))(σ:St)(tg:Expr)(R:It->Hp->Prop)(d:AC)(a:AE):Prop:=
 ∃(it:AD)(fp:List AD)(c:Nat->AN->Prop)(J:It)(H':Hp),d= .ref it/\Inv X A2 σ H' a/\Turn X.prog X.w X.K tg J fp it c/\c 0 a.heap/\(∀b∈fp,z3Y X A2 H' b)/\R J H'
def PI(X:Cx)(tg iter:Expr)(wi:TI):Prop:=
 ∀(A2:List (AD×Obj))(s:AE)(σ:St)(H:Hp)(R:It->Hp->Prop),Inv X A2 σ H s->wi σ H R->
  AT (AV X.prog X.w) X.A (eval iter X.env) (λv a=>AT (AV X.prog X.w) X.A (pyIter v) (PIE X A2 σ tg R) X.xe a) X.xe s
theorem z7k{o:Obj}{n:String}{vs:Array AC}{Q:Unit->AE->Prop}(b:s.heap.get? it=AA o)(hc:o.cls= .type n)(hd:o.data= .fields vs)
  (hn: ["enumerate","zip","dict_itemiterator","dict_reverseitemiterator","odict_iterator","itertools.zip_longest","itertools.pairwise"].contains n=false)(a:Q () s):AT M A (letOwnedTupleGo tg (.ref it) u) Q E s:=by
 unfold letOwnedTupleGo;cases tg<;>first
  | show wN a
  | (cases u<;>first
    | show wN a
    | (show wu (wpAny_load b ?_)
       rw[hc,hd]
       change AT M A (if(["enumerate","zip","dict_itemiterator","dict_reverseitemiterator","odict_iterator","itertools.zip_longest","itertools.pairwise"].contains n&&vs[0]? == AA (rawInt _))=true then _ else _) Q E s
       rw[wW (by intro h;rw[hn,w1C]at h;cases h)];show wN a))
noncomputable def Itl(K:W.Frag)(a:AD):It:=
 (λi H=>∃xs x,SqL K H a xs/\xs[i]? =AA x,λi H x H'=>H'=H/\∀xs,SqL K H a xs->xs[i]? =AA x,λi H=>∃xs,SqL K H a xs/\xs.length<=i)
noncomputable def Itt(K:W.Frag)(a:AD):It:=
 (λi H=>∃xs x,SqT K H a xs/\xs[i]? =AA x,λi H x H'=>H'=H/\∀xs,SqT K H a xs->xs[i]? =AA x,λi H=>∃xs,SqT K H a xs/\xs.length<=i)
noncomputable def Itr(lo:Int)(n:Nat):It:=(λi v=>i<n,λi H x H'=>H'=H/\x= .int (lo+i),λi v=>n<=i)
variable{K:W.Frag}
theorem zaw(a it:AD):Turn P w K tg (Itl K a) [it] it (λi h=>h.IsListIter it a i) where
 mem:=by simp
 obj:=λi h st b f=>by
  have e:b=it:=by simpa using f
  subst e;obtain⟨o,e,c,d⟩:=(st);show(o,e,λv z=>by rw[d]at z;cases z)
 keep:=λi h h' st k=>st.at λo e=>k it (by simp) o e
 item:=by
  intro X B t A hc i A2 s σ H E I j st r;subst B t A;obtain⟨xs,x,l,C⟩:=(r);obtain⟨aa,D,p,hz⟩:=(I.list l);obtain⟨u,J,M⟩:=(D.get C);obtain⟨f0,f1,f2,n,q,y⟩:=(j it (by simp));show wpAny_pyNext_list_item st p.isList (x:=u) (by simpa using J) λh' ad F=>?_
  have G:Inv X A2 σ H {s with heap:=h'}:=I.turned (t':=s.toks) (λb o f e=>(F.2 b f).trans e) f0 f1 n q y;obtain⟨o,e,c,d⟩:=(id ad);show(u,rfl,z7k (s:={s with heap:=h'}) e c d (by decide) (x,H,G,M,(rfl,λys N=>by rw[I.list_inj N l];show C),ad,λb f=>(j b f).1))
 done:=by
  intro X B t A hc i A2 s σ H E I j st r;subst B t A;obtain⟨xs,l,C⟩:=(r);obtain⟨aa,D,p,hz⟩:=(I.list l);obtain⟨f0,f1,f2,n,q,y⟩:=(j it (by simp));have hl:=D.length;show wpAny_pyNext_list_end (I.ok.hd hc) st p.isList (by simp;lia) λh' L=>(rfl,I.turned (t':=s.toks) (λb o f e=>L b o f e) f0 f1 n q y)
 self:=λv v v v v st h=>wpAny_pyIter_listiter st h
theorem z8j(a it:AD):Turn P w K tg (Itt K a) [it] it (λi h=>h.IsTupleIter it a i) where
 mem:=by simp
 obj:=λi h st b f=>by
  have e:b=it:=by simpa using f
  subst e;obtain⟨o,e,c,d⟩:=(st);show(o,e,λv z=>by rw[d]at z;cases z)
 keep:=λi h h' st k=>st.at λo e=>k it (by simp) o e
 item:=by
  intro X B t A hc i A2 s σ H E I j st r;subst B t A;obtain⟨xs,x,l,C⟩:=(r);obtain⟨aa,D,p,hz⟩:=(I.tuple l);obtain⟨u,J,M⟩:=(D.get C);obtain⟨f0,f1,f2,n,q,y⟩:=(j it (by simp));show wpAny_pyNext_tuple_item st (show s.heap.IsTuple a aa.toArray from p) (x:=u) (by simpa using J) λh' ad F=>?_
  have G:Inv X A2 σ H {s with heap:=h'}:=I.turned (t':=s.toks) (λb o f e=>(F.2 b f).trans e) f0 f1 n q y;obtain⟨o,e,c,d⟩:=(id ad);show(u,rfl,z7k (s:={s with heap:=h'}) e c d (by decide) (x,H,G,M,(rfl,λys N=>by rw[I.tuple_inj N l];show C),ad,λb f=>(j b f).1))
 done:=by
  intro X B t A hc i A2 s σ H E I j st r;subst B t A;obtain⟨xs,l,C⟩:=(r);obtain⟨aa,D,p,hz⟩:=(I.tuple l);obtain⟨f0,f1,f2,n,q,y⟩:=(j it (by simp));have hl:=D.length;show wpAny_pyNext_tuple_end (I.ok.hd hc) st (show s.heap.IsTuple a aa.toArray from p) (by simp;lia) λh' L=>(rfl,I.turned (t':=s.toks) (λb o f e=>L b o f e) f0 f1 n q y)
 self:=λv v v v v st h=>wpAny_pyIter_tupleiter st h
theorem z8q(it:AD)(lo:Int)(n:Nat):Turn P w K tg (Itr lo n) [it] it (λi h=>IsRangeIter h it (lo+(i:Nat)*1) ((n:Int)-(i:Nat)) 1) where
 mem:=by simp
 obj:=λi h st b a=>by
  have e:b=it:=by simpa using a
  subst e;show(_,st,λv z=>by
   have x:Data.fields _=Data.cell v:=z;cases x)
 keep:=λi h h' st k=>k it (by simp) _ st
 item:=by
  intro X r l q hc i A2 s σ H E I c st j;subst r l q;obtain⟨f0,f1,f2,d,f,p⟩:=(c it (by simp));have W:=Walks.range (prog:=X.prog) (w:=X.w) (I.ok.hd hc) it lo 1 n;show W.item i s _ _ j st λv h' tk y ad kk=>?_
  obtain⟨t,rfl⟩:=y;have u:Inv X A2 σ H {s with heap:=h',toks:=tk}:=I.turned (λb o a e=>kk b o (by simpa using a) e) f0 f1 d f p;show(_,rfl,z7k (s:={s with heap:=h',toks:=tk}) (n:="range_iterator") ad rfl rfl (by decide) (.int (lo+i),H,u,(t,?_),(rfl,rfl),ad,λb a=>(c b a).1));rw[Int.mul_one]
 done:=by
  intro X r l q hc i A2 s σ H E I c st j;subst r l q;obtain⟨f0,f1,f2,d,f,p⟩:=(c it (by simp));show wpAny_pyNext_range_end (I.ok.hd hc) st (by have:n<=i:=j;lia) λh' A=>(rfl,I.turned (t':=s.toks) (λb o a e=>A b o a e) f0 f1 d f p)
 self:=λm m m m m st h=>wpAny_pyIter_rangeiter st h
variable{l:Expr}{ta:TA}{p:Pos}{fp:List AD}
def zei(K:W.Frag)(tl:TE):TI:=λσ H R=>tl σ H λx H1=>∃a,x= .ref a/\(∃xs,SqL K H1 a xs)/\R (Itl K a) H1
def zgW(K:W.Frag)(tl:TE):TI:=λσ H R=>tl σ H λx H1=>∃a,x= .ref a/\(∃xs,SqT K H1 a xs)/\R (Itt K a) H1
theorem zW{tl:TE}(hl:PE X l tl):PI X tg l (zei X.K tl):=by
 intro A2 s σ H R I h;show thn (hl A2 s σ H _ I h) ?_;rintro v d ⟨x,H1,c,r1,j⟩;obtain⟨a,e,⟨xs,i⟩,q⟩:=j;subst e;cases r1;obtain⟨aa,n,p,hz⟩:=c.list i;show wpAny_pyIter_list p.isList ?_;show(d.heap.objs.size,[d.heap.objs.size],_,_,H1,rfl,c.kept (t':=d.toks) λb o e=>wo _ e,zaw a _,(_,wX _ rfl,rfl,rfl),λb f=>?_,q);have e:b=d.heap.objs.size:=by simpa using f
 subst e;show c.fpOk (wy _) (c.hok.fresh (wy _))
theorem z3n{tl:TE}(hl:PE X l tl):PI X tg l (zgW X.K tl):=by
 intro A2 s σ H R I h;show thn (hl A2 s σ H _ I h) ?_;rintro v c ⟨x,H1,d,r1,j⟩;obtain⟨a,e,⟨xs,i⟩,q⟩:=j;subst e;cases r1;obtain⟨aa,n,p,hz⟩:=d.tuple i;show wpAny_pyIter_tuple (show c.heap.IsTuple a aa.toArray from p) ?_;show(c.heap.objs.size,[c.heap.objs.size],_,_,H1,rfl,d.kept (t':=c.toks) λb o e=>wo _ e,z8j a _,(_,wX _ rfl,rfl,rfl),λb f=>?_,q);have e:b=c.heap.objs.size:=by simpa using f
 subst e;show d.fpOk (wy _) (d.hok.fresh (wy _))
theorem z7A{R:It->Hp->Prop}{lo hi:Int}{t u v:Tok}{tk:Nat}(I:Inv X A2 σ H s)(h1: -(2 ^ 62)<=lo)(h2:lo<2 ^ 62)(i: -(2 ^ 62)<=hi)(f:hi<2 ^ 62)
  (q:R (Itr lo (hi-lo).toNat) H):AT (AV X.prog X.w) X.A (pyIter (.ref s.heap.objs.size)) (PIE X A2 σ tg R) E {s with heap:=s.heap.push {cls:= .type "range",data:= .fields #[.int lo t,.int hi u,.int 1 v]},toks:=tk}:=by
 show wpAny_pyIter_range (IsRange.new ..) (small_one h1 h2 i f) ?_;have a:Inv X A2 σ H {s with heap:=s.heap.push {cls:= .type "range",data:= .fields #[.int lo t,.int hi u,.int 1 v]},toks:=tk}:=I.kept λb o e=>wo _ e
 show((s.heap.push {cls:= .type "range",data:= .fields #[.int lo t,.int hi u,.int 1 v]}).objs.size,[(s.heap.push {cls:= .type "range",data:= .fields #[.int lo t,.int hi u,.int 1 v]}).objs.size],_,_,H,rfl,
  a.kept (t':=tk) λb o e=>wo _ e,z8q _ lo (hi-lo).toNat,?_,λb c=>?_,q)
 .have d:lo+((0:Nat):Int)*1=lo:=by simp
  have h:(((hi-lo).toNat:Nat):Int)-((0:Nat):Int)=Builtin.Range.rangeSize lo hi 1:=by rw[rangeSize_one];split<;>lia
  change IsRangeIter _ _ (lo+((0:Nat):Int)*1) ((((hi-lo).toNat:Nat):Int)-((0:Nat):Int)) 1
  rw[d,h];show wX _ rfl
 .have e:b=(s.heap.push {cls:= .type "range",data:= .fields #[.int lo t,.int hi u,.int 1 v]}).objs.size:=by simpa using c
  subst e;show a.fpOk (wy _) (a.hok.fresh (wy _))
def zgf(ta:TA):TI:=λσ H R=>ta σ H λvs H1=>∃j:Int,vs= [.int j]/\-(2 ^ 62)<=j/\j<2 ^ 62/\R (Itr 0 j.toNat) H1
def zfN(ta:TA):TI:=λσ H R=>ta σ H λvs H1=>∃i j:Int,vs= [.int i,.int j]/\(-(2 ^ 62)<=i/\i<2 ^ 62/\-(2 ^ 62)<=j/\j<2 ^ 62)/\R (Itr i (j-i).toNat) H1
theorem jW{a:Expr}(d:Gl X "range")(hm:X.mg "range"=AB)(ha:PA X [a] ta)(hs:(AJ [a] X.env= [(false,eval a X.env)])⁻¹):PI X tg (.Call (.Name "range" p) [a] [] pos) (zgf ta):=by
 intro A2 s σ H R I h;show Call_ (z19 I d hm boot_range (Qe (thn (ha pos A2 s σ H _ I h) ?_) hs rfl));rintro us l ⟨vs,H1,c,r1,b⟩;obtain⟨j,e,b,f,q⟩:=b;subst e;cases r1 with
 | cons r i=>
  cases i;obtain⟨t,rfl⟩:=r;show call_range_1 (z7A c (by lia) (by lia) b f (by simpa using q))
theorem zaY{a b:Expr}(n:Gl X "range")(hm:X.mg "range"=AB)(ha:PA X [a,b] ta)(hs:(AJ [a,b] X.env= [(false,eval a X.env),(false,eval b X.env)])⁻¹)(f:(AJ [b] X.env= [(false,eval b X.env)])⁻¹):
  PI X tg (.Call (.Name "range" p) [a,b] [] pos) (zfN ta):=by
 intro A2 s σ H R I h;show Call_ (z19 I n hm boot_range (Qe (thn (ha pos A2 s σ H _ I h) ?_) (by rw[hs,f]) (by rw[f];rfl)));intro us x zz;obtain⟨vs,H1,l,r1,d⟩:=(zz);obtain⟨i,j,e,⟨d,o,w,u⟩,q⟩:=(d);subst e;cases r1 with
 | cons r c=>
  cases c with
  | cons r' c=>
   cases c;obtain⟨t,rfl⟩:=r;obtain⟨t',rfl⟩:=r';show call_range_2 (z7A l d o w u q)
def zaI(wi:TI)(g:TG)(tb:TS):TS:=λD σ H=>wi σ H λJ H1=>∃W:Nat->Nat->St->Hp->Prop,(∃m,W 0 m σ H1)/\∀i m σ H,W i m σ H->
 (J.stop i H/\D.nx σ H)\/(J.go i H/\∃N:St->Hp->Prop,(∀σ' H',N σ' H'->∃a,a<m/\W (i+1) a σ' H')/\∀x H',J.yld i H x H'->g x σ H' λσ2 H2=>tb {D with nx:=N,ct:=N,bk:=D.nx} σ2 H2)
noncomputable def z4r(fp:List AD)(h:AN):List (AD×Obj):=fp.filterMap λb=>(h.get? b).map λo=>(b,o)
theorem z1C{o:Obj}(a:b∈fp)(e:h.get? b=AA o):(b,o)∈z4r fp h:=List.mem_filterMap.mpr (b,a,by rw[e];rfl)
theorem zar{p:AD×Obj}(d:p∈z4r fp h):p.1∈fp/\h.get? p.1=AA p.2:=by
 obtain⟨b,c,e⟩:=List.mem_filterMap.mp d;cases q:h.get? b with
 | none=>rw[q]at e;cases e
 | some o=>
  rw[q]at e;have a:(b,o)=p:=Option.some.inj e;subst a;show(c,q)
theorem Inv.pinned(I:Inv X A2 σ H s)(i:∀b∈fp,z3Y X A2 H b)(f:∀b∈fp,∃o,s.heap.get? b=AA o/\∀v,o.data≠ .cell v):Inv X (A2++z4r fp s.heap) σ H s:=
 I.pins_of λp h=>(wA.mp h).elim (λz=>I.pin p (wE _ z)) λz=>by
  obtain⟨c,e⟩:=zar z;obtain⟨f0,f1,f2,_⟩:=i p.1 c;obtain⟨o,a,d⟩:=f p.1 c;rw[e]at a;cases a;show(e,f0,f1,f2,d)
def Inv.unpinned{pl:List (AD×Obj)}(I:Inv X (A2++pl) σ H s):Inv X A2 σ H s:=I.pins_of λp a=>I.pin p (wE _ (qj _ a))
theorem z4v{iter:Expr}{wi:TI}{g:TG}(q:PassesOwn (AV X.prog X.w) X.A X.env X.xe)(hc:X.calm=true)(hi:PI X tg iter wi)(hg:PG X tg g)(c:PSs X body tb)
  (hs:autoParam (∀x,foldedSetIterable iter X.env x=pure x) z_b._auto_1):PS X (.For tg iter body [] pos) (zaI wi g tb):=by
 intro A2 s σ H D I h;show wpAny_For (thn (hi A2 s σ H _ I h) λv s1 h1=>thn h1 λmW s2 h2=>?_) hs;obtain⟨it,fp,F,J,H2,e,I2,T,aB,f2,W,⟨m0,w0⟩,turn⟩:=(h2);subst e;have z:∀{H':Hp},(∀b∈fp,H' b=AB)->∀b∈fp,z3Y X A2 H' b:=λhn b c=>(hn b c,(f2 b c).2)
 show codeAny_forLoop_any (λn s'=>∃i σ' H',Inv X A2 σ' H' s'/\F i s'.heap/\(∀b∈fp,H' b=AB)/\W i n σ' H') ?_ m0 (0,σ,H2,I2,aB,λb c=>(f2 b c).1,w0);intro n M zz;obtain⟨i,σ3,t,L,K,G,w3⟩:=(zz);rcases turn i n σ3 t w3 with⟨stop,qn⟩|⟨go,N,hN,step⟩
 .refine w0V q (thn (T.done X rfl rfl rfl hc i A2 M σ3 t X.xe L (z G) K stop) ?_);rintro r Q ⟨B,I4⟩;subst B;show w0U (σ3,t,I4,qn)
 .refine w0V q (thn (T.item X rfl rfl rfl hc i A2 M σ3 t X.xe L (z G) K go) ?_);intro r Q zz;obtain⟨u,B,Z⟩:=(zz);subst B;show w0V q (thn Z ?_);intro _ P zz;obtain⟨x,O,I5,U,y5,E,Y⟩:=(zz);have C:=I5.pinned (z Y) (T.obj _ _ E);show w0V q (thn (hg _ P σ3 O x u _ C U (step x O y5)) ?_);intro _ S zz;obtain⟨σ6,H6,I6,q6⟩:=(zz);show w0V q (thn (c _ S σ6 H6 _ I6 q6) λf y l=>?_);have again:∀{σ7:St} {a:Hp},Inv X (A2++z4r fp P.heap) σ7 a y->N σ7 a->∃m,m<n/\∃i σ' H',Inv X A2 σ' H' y/\F i y.heap/\(∀b∈fp,H' b=AB)/\W i m σ' H':=λ{σ7 a} j p=>by
   obtain⟨m',hm,w7⟩:=(hN σ7 a p);show(m',hm,i+1,σ7,a,j.unpinned,T.keep _ _ _ E λb c o e=>(j.pin (b,o) (wE _ (wE _ (z1C c e)))).1,λb c=>?_,w7);obtain⟨o,e,d⟩:=(T.obj _ _ E b c);show(j.pin (b,o) (wE _ (wE _ (z1C c e)))).2.1
  cases f with
  | next=>obtain⟨σ7,a,j,p⟩:=(l);show again j p
  | cont=>obtain⟨σ7,a,j,p⟩:=(l);show again j p
  | brk=>obtain⟨σ7,a,j,l⟩:=(l);show(σ7,a,j.unpinned,l)
  | ret v=>obtain⟨R,σ7,a,j,r7,l⟩:=(l);show(R,σ7,a,j.unpinned,r7,l)
theorem z25{g:TG}(b:Nat->St->Hp->Prop)(h0:b 0 σ H)(hl:∀i σ H,i<=xs.length->b i σ H->SqL K H a xs)
  (hs:∀i x σ H,xs[i]? =AA x->b i σ H->g x σ H λσ2 H2=>tb {D with nx:=b (i+1),ct:=b (i+1),bk:=D.nx} σ2 H2)(hd:∀σ H,b xs.length σ H->D.nx σ H):
  ∃W:Nat->Nat->St->Hp->Prop,(∃m,W 0 m σ H)/\∀i m σ H,W i m σ H->
   ((Itl K a).stop i H/\D.nx σ H)\/((Itl K a).go i H/\∃N:St->Hp->Prop,(∀σ' H',N σ' H'->∃c,c<m/\W (i+1) c σ' H')/\∀x H',(Itl K a).yld i H x H'->g x σ H' λσ2 H2=>tb {D with nx:=N,ct:=N,bk:=D.nx} σ2 H2):=by
 show(λi m σ H=>m=xs.length-i/\i<=xs.length/\b i σ H,(xs.length,by simp,qN _,h0),?_);rintro i m σ H ⟨rfl,hi,p⟩;have q:=hl i σ H hi p;by_cases aA:i<xs.length
 .refine .inr ((xs,xs[i],q,by simp[aA]),b (i+1),λσ' H' p'=>(xs.length-(i+1),by lia,rfl,aA,p'),λx H' y=>?_);obtain⟨e,y⟩:=y;subst e;show hs i x σ _ (y xs q) p
 .have e:i=xs.length:=by lia
  subst e;show .inl ((xs,q,wy _),hd σ H p)
theorem z9I{g:TG}(b:Nat->St->Hp->Prop)(h0:b 0 σ H)(hl:∀i σ H,i<=xs.length->b i σ H->SqT K H a xs)
  (hs:∀i x σ H,xs[i]? =AA x->b i σ H->g x σ H λσ2 H2=>tb {D with nx:=b (i+1),ct:=b (i+1),bk:=D.nx} σ2 H2)(hd:∀σ H,b xs.length σ H->D.nx σ H):
  ∃W:Nat->Nat->St->Hp->Prop,(∃m,W 0 m σ H)/\∀i m σ H,W i m σ H->
   ((Itt K a).stop i H/\D.nx σ H)\/((Itt K a).go i H/\∃N:St->Hp->Prop,(∀σ' H',N σ' H'->∃c,c<m/\W (i+1) c σ' H')/\∀x H',(Itt K a).yld i H x H'->g x σ H' λσ2 H2=>tb {D with nx:=N,ct:=N,bk:=D.nx} σ2 H2):=by
 show(λi m σ H=>m=xs.length-i/\i<=xs.length/\b i σ H,(xs.length,by simp,qN _,h0),?_);rintro i m σ H ⟨rfl,hi,p⟩;have q:=hl i σ H hi p;by_cases aA:i<xs.length
 .refine .inr ((xs,xs[i],q,by simp[aA]),b (i+1),λσ' H' p'=>(xs.length-(i+1),by lia,rfl,aA,p'),λx H' y=>?_);obtain⟨e,y⟩:=y;subst e;show hs i x σ _ (y xs q) p
 .have e:i=xs.length:=by lia
  subst e;show .inl ((xs,q,wy _),hd σ H p)
theorem z1n{lo:Int}{g:TG}(a:Nat->St->Hp->Prop)(h0:a 0 σ H)
  (hs:∀i σ H,i<n->a i σ H->g (.int (lo+i)) σ H λσ2 H2=>tb {D with nx:=a (i+1),ct:=a (i+1),bk:=D.nx} σ2 H2)(hd:∀σ H,a n σ H->D.nx σ H):
  ∃W:Nat->Nat->St->Hp->Prop,(∃m,W 0 m σ H)/\∀i m σ H,W i m σ H->
   ((Itr lo n).stop i H/\D.nx σ H)\/((Itr lo n).go i H/\∃N:St->Hp->Prop,(∀σ' H',N σ' H'->∃b,b<m/\W (i+1) b σ' H')/\∀x H',(Itr lo n).yld i H x H'->g x σ H' λσ2 H2=>tb {D with nx:=N,ct:=N,bk:=D.nx} σ2 H2):=by
 show(λi m σ H=>m=n-i/\i<=n/\a i σ H,(n,by simp,qN _,h0),?_);rintro i m σ H ⟨rfl,hi,p⟩;by_cases aA:i<n
 .refine .inr (aA,a (i+1),λσ' H' p'=>(n-(i+1),by lia,rfl,aA,p'),λx H' y=>?_);obtain⟨e,y⟩:=y;subst e y;show hs i σ _ aA p
 .have e:i=n:=by lia
  subst e;show .inl (wy _,hd σ H p)
abbrev R2:=V->V->Hp->VK->Prop
def OpR(X:Cx)(f:AC->AC->Sem AC)(r:R2):Prop:=
 ∀(A2:List (AD×Obj))(s:AE)(σ:St)(H:Hp)(x y:V)(v u:AC)(Q:VK),Inv X A2 σ H s->RelV x v->RelV y u->r x y H Q->
  AT (AV X.prog X.w) X.A (f v u) (EP X A2 σ Q) X.xe s
def UnR(X:Cx)(f:AC->Sem AC)(r:V->Hp->VK->Prop):Prop:=
 ∀(A2:List (AD×Obj))(s:AE)(σ:St)(H:Hp)(x:V)(v:AC)(Q:VK),Inv X A2 σ H s->RelV x v->r x H Q->
  AT (AV X.prog X.w) X.A (f v) (EP X A2 σ Q) X.xe s
def kr(X:Cx)(f:AC)(r:List V->Hp->VK->Prop):Prop:=
 ∀(A2:List (AD×Obj))(s:AE)(σ:St)(H:Hp)(xs:List V)(us:List AC)(Q:VK),Inv X A2 σ H s->zS xs us->r xs H Q->
  AT (AV X.prog X.w) X.A (call f us) (EP X A2 σ Q) X.xe s
def zgU(X:Cx)(r:V->Hp->(Bool->Hp->Prop)->Prop):Prop:=
 ∀(A2:List (AD×Obj))(s:AE)(σ:St)(H:Hp)(x:V)(v:AC)(Q:Bool->Hp->Prop),Inv X A2 σ H s->RelV x v->r x H Q->
  AT (AV X.prog X.w) X.A (truthy v) (TP X A2 σ Q) X.xe s
def tOp(r:R2)(ta tb:TE):TE:=λσ H Q=>ta σ H λx H1=>tb σ H1 λy H2=>r x y H2 Q
def tUn(r:V->Hp->VK->Prop)(ta:TE):TE:=λσ H Q=>ta σ H λx H1=>r x H1 Q
def rI(C:Int->Int->Prop)(g:Int->Int->V):R2:=λx y H Q=>∃i j,x= .int i/\y= .int j/\C i j/\Q (g i j) H
def rI0(g:Int->Int->V):R2:=λx y H Q=>∃i j,x= .int i/\y= .int j/\Q (g i j) H
def rU(g:Int->V):V->Hp->VK->Prop:=λx H Q=>∃i,x= .int i/\Q (g i) H
variable{f:AC->AC->Sem AC}
section
variable{a b:Expr}{ta tb tc:TE}
theorem zeI(ha:PE X a ta)(e:PE X b tb){R:V->V->Hp->Prop}(I:Inv X A2 σ H s)
  (h:ta σ H λx H1=>tb σ H1 λy H2=>R x y H2)  
  (l:∀v u d x y H2,Inv X A2 σ H2 d->RelV x v->RelV y u->R x y H2->AT (AV X.prog X.w) X.A (f v u) Q X.xe d):
  AT (AV X.prog X.w) X.A (eval a X.env) (λv p=>AT (AV X.prog X.w) X.A (eval b X.env) (λu c=>AT (AV X.prog X.w) X.A (f v u) Q X.xe c) X.xe p) X.xe s:=by
 show thn (ha A2 s σ H _ I h) ?_;rintro v q ⟨x,H1,i,r1,o⟩;show thn (e A2 q σ H1 _ i o) ?_;rintro u d ⟨y,H2,j,r2,n⟩;show l v u d x y H2 j r1 r2 n
theorem zq{op:Operator}{r:R2}(d:OpR X (binaryOp op) r)(ha:PE X a ta)(c:PE X b tb):PE X (.BinOp a op b pos) (tOp r ta tb):=by
 intro A2 s σ H Q I h;show wpAny_BinOp (zeI ha c I h λv u j x y H2 f e i q=>d A2 j σ H2 x y v u Q f e i q)
theorem z5M{op:UnaryOp}{r:V->Hp->VK->Prop}(c:UnR X (unaryOp op) r)(ha:PE X a ta):PE X (.UnaryOp op a pos) (tUn r ta):=by
 intro A2 s σ H Q I h;show UnaryOp_ (thn (ha A2 s σ H _ I h) λv e ⟨x,H1,d,r1,b⟩=>c A2 e σ H1 x v Q d r1 b)
theorem opI{C:Int->Int->Prop}{g:Int->Int->Int}
  (rule:∀(i j:Int)(t u:Tok)(s:AE)(Q:AC->AE->Prop)(E:AC->AE->Prop),C i j->Q (.int (g i j) s.toks) {s with toks:=s.toks+1}->AT (AV X.prog X.w) X.A (f (.int i t) (.int j u)) Q E s):
  OpR X f (rI C λi j=> .int (g i j)):=by
 intro A2 s σ H x y v u Q I a b h;obtain⟨i,j,rfl,rfl,hc,q⟩:=h;obtain⟨t,rfl⟩:=a;obtain⟨t',rfl⟩:=b;show rule i j t t' s _ _ hc (.int (g i j),H,I.tok _,(_,rfl),q)
theorem zgi{g:Int->Int->Int}
  (rule:∀(i j:Int)(t u:Tok)(s:AE)(Q:AC->AE->Prop)(E:AC->AE->Prop),Q (.int (g i j) s.toks) {s with toks:=s.toks+1}->AT (AV X.prog X.w) X.A (f (.int i t) (.int j u)) Q E s):
  OpR X f (rI0 λi j=> .int (g i j)):=by
 intro A2 s σ H x y v u Q I a b h;obtain⟨i,j,rfl,rfl,q⟩:=h;obtain⟨t,rfl⟩:=a;obtain⟨t',rfl⟩:=b;show rule i j t t' s _ _ (.int (g i j),H,I.tok _,(_,rfl),q)
theorem zeo{g:Int->Int->Bool}
  (rule:∀(i j:Int)(t u:Tok)(s:AE)(Q:AC->AE->Prop)(E:AC->AE->Prop),Q (.bool (g i j)) s->AT (AV X.prog X.w) X.A (f (.int i t) (.int j u)) Q E s):
  OpR X f (rI0 λi j=> .bl (g i j)):=by
 intro A2 s σ H x y v u Q I a b h;obtain⟨i,j,rfl,rfl,q⟩:=h;obtain⟨t,rfl⟩:=a;obtain⟨t',rfl⟩:=b;show rule i j t t' s _ _ (.bl (g i j),H,I,rfl,q)
def zgB(i j:Int):Prop:=0<j/\j<1073741824
def zfU(i j:Int):Prop:=0<=j/\j<=1000000/\i.natAbs<2 ^ 64
def zes(i j:Int):Prop:=(-(2 ^ 64)<i/\i<2 ^ 64)\/(-(2 ^ 64)<j/\j<2 ^ 64)
theorem zes.ok{i j:Int}(h:zes i j):IntMulOk i j:=by
 rcases h with⟨h1,h2⟩|⟨h1,h2⟩
 .exact .of_left (intBits_le_64 h1 h2)
 .exact .of_right (intBits_le_64 h1 h2)
def yC:OpR X (binaryOp .Add) (rI0 λi j=> .int (i+j)):=zgi λv v v v v v v q=>add_int q
def z3x:OpR X (binaryOp .Sub) (rI0 λi j=> .int (i-j)):=zgi λv v v v v v v q=>sub_int q
def z4C:OpR X (binaryOp .Mult) (rI zes λi j=> .int (i*j)):=opI λv v v v v v v hc q=>mul_int q hc.ok
theorem ye:OpR X (binaryOp .FloorDiv) (rI zgB λi j=> .int (i/j)):=opI λi j v v v v v hc q=>by
 have h1:(0:Int)<j:=hc.1;have h2:j<1073741824:=hc.2;show floordiv_int (by lia) (by rw[Int.fdiv_eq_ediv_of_nonneg i (by lia)];show q) (.inl (PyProof.noPylong_small (by lia)))
theorem zU:OpR X (binaryOp .Mod) (rI (λv j=>0<j) λi j=> .int (i%j)):=opI λi j v v v v v hc q=>by
 have h1:(0:Int)<j:=hc;show mod_int' (by lia) (by rw[Int.fmod_eq_emod_of_nonneg i (by lia)];show q)
def zfn:OpR X (binaryOp .Pow) (rI zfU λi j=> .int (i ^ j.toNat)):=opI λv v v v v v v hc q=>pow_int_small hc.1 hc.2.1 hc.2.2 q
theorem unI{f:AC->Sem AC}{g:Int->Int}
  (rule:∀(i:Int)(t:Tok)(s:AE)(Q:AC->AE->Prop)(E:AC->AE->Prop),Q (.int (g i) s.toks) {s with toks:=s.toks+1}->AT (AV X.prog X.w) X.A (f (.int i t)) Q E s):
  UnR X f (rU λi=> .int (g i)):=by
 intro A2 s σ H x v Q I a h;obtain⟨i,rfl,q⟩:=h;obtain⟨t,rfl⟩:=a;show rule i t s _ _ (.int (g i),H,I.tok _,(_,rfl),q)
def z3C:UnR X (unaryOp .USub) (rU λi=> .int (-i)):=unI λv v v v v q=>neg_int q
end
noncomputable def zfY:V->V->Bool
 | .non,.non=>true | .non,.int _=>true | .int _,.non=>true | .non,.bl _=>true | .bl _,.non=>true | .non,.str _=>true | .str _,.non=>true
 | .int _,.int _=>true | .bl _,.bl _=>true | .str _,.str _=>true | .byt _,.byt _=>true
 | .int _,.str _=>true | .str _,.int _=>true | .bl _,.str _=>true | .str _,.bl _=>true
 | _,_=>false
def rEq:R2:=λx y H Q=>zfY x y=true/\Q (.bl (decide (x=y))) H
def rNe:R2:=λx y H Q=>zfY x y=true/\Q (.bl (!decide (x=y))) H
theorem z9B{i j:Int}:decide (V.int i=V.int j)=(i == j):=by
 rw[w0t];simp
theorem zb4{i j:Bool}:decide (V.bl i=V.bl j)=(i == j):=by
 rw[w0t];simp
theorem z9Z{i j:Str}:decide (V.str i=V.str j)=(i == j):=by
 rw[w0t];simp
theorem z91{i j:Array UInt8}:decide (V.byt i=V.byt j)=(i.toList == j.toList):=by
 rw[w0t];cases i;cases j;simp
variable{op:CmpOp}
section
variable{a b:Expr}{ta tb tc:TE}
theorem jk{Q:VK}{k k':Bool}(I:Inv X A2 σ H s)(q:Q (.bl k) H)(e:k=k'):EP X A2 σ Q (.bool k') s:=by
 subst e;show(.bl k,H,I,rfl,q)
theorem zO:OpR X (compareOp .Eq) rEq:=by
 intro A2 s σ H x y v u Q I b a h;obtain⟨hs,q⟩:=h;cases x with
 | non=>
  cases b;cases y with
  | non=>cases a;show PySem.EqNone.eq_none_none (jk I q (by simp))
  | bl j=>cases a;show PySem.EqNone.eq_none_bool (jk I q (by simp))
  | int j=>obtain⟨t',rfl⟩:=a;show PySem.EqNone.eq_none_int (jk I q (by simp))
  | str j=>obtain⟨t',rfl⟩:=a;show PySem.EqNone.eq_none_str (jk I q (by simp))
  | _=>show nf' hs
 | bl i=>
  cases b;cases y with
  | non=>cases a;show PySem.EqNone.eq_bool_none (jk I q (by simp))
  | bl j=>cases a;show eq_bool (jk I q zb4)
  | str j=>obtain⟨t',rfl⟩:=a;show PySem.EqMixed.eq_bool_str (jk I q (by simp))
  | _=>show nf' hs
 | int i=>
  obtain⟨t,rfl⟩:=b;cases y with
  | non=>cases a;show PySem.EqNone.eq_int_none (jk I q (by simp))
  | int j=>obtain⟨t',rfl⟩:=a;show eq_int (jk I q z9B)
  | str j=>obtain⟨t',rfl⟩:=a;show PySem.EqMixed.eq_int_str (jk I q (by simp))
  | _=>show nf' hs
 | str i=>
  obtain⟨t,rfl⟩:=b;cases y with
  | non=>cases a;show PySem.EqNone.eq_str_none (jk I q (by simp))
  | bl j=>cases a;show PySem.EqMixed.eq_str_bool (jk I q (by simp))
  | int j=>obtain⟨t',rfl⟩:=a;show PySem.EqMixed.eq_str_int (jk I q (by simp))
  | str j=>obtain⟨t',rfl⟩:=a;show eq_str (jk I q z9Z)
  | _=>show nf' hs
 | byt i=>
  obtain⟨t,rfl⟩:=b;cases y with
  | byt j=>obtain⟨t',rfl⟩:=a;show PySem.W.eq_bytes (jk I q z91)
  | _=>show nf' hs
 | _=>cases y<;>show nf' hs
theorem z1J:OpR X (compareOp .NotEq) rNe:=by
 intro A2 s σ H x y v u Q I b a h;obtain⟨hs,q⟩:=h;cases x with
 | non=>
  cases b;cases y with
  | non=>cases a;show PySem.EqNone.ne_none_none (jk I q (by simp))
  | bl j=>cases a;show PySem.EqNone.ne_none_bool (jk I q (by simp))
  | int j=>obtain⟨t',rfl⟩:=a;show PySem.EqNone.ne_none_int (jk I q (by simp))
  | str j=>obtain⟨t',rfl⟩:=a;show PySem.EqNone.ne_none_str (jk I q (by simp))
  | _=>show nf' hs
 | bl i=>
  cases b;cases y with
  | non=>cases a;show PySem.EqNone.ne_bool_none (jk I q (by simp))
  | bl j=>cases a;show ne_bool (jk I q (QG not zb4))
  | str j=>obtain⟨t',rfl⟩:=a;show PySem.EqMixed.ne_bool_str (jk I q (by simp))
  | _=>show nf' hs
 | int i=>
  obtain⟨t,rfl⟩:=b;cases y with
  | non=>cases a;show PySem.EqNone.ne_int_none (jk I q (by simp))
  | int j=>obtain⟨t',rfl⟩:=a;show ne_int (jk I q (QG not z9B))
  | str j=>obtain⟨t',rfl⟩:=a;show PySem.EqMixed.ne_int_str (jk I q (by simp))
  | _=>show nf' hs
 | str i=>
  obtain⟨t,rfl⟩:=b;cases y with
  | non=>cases a;show PySem.EqNone.ne_str_none (jk I q (by simp))
  | bl j=>cases a;show PySem.EqMixed.ne_str_bool (jk I q (by simp))
  | int j=>obtain⟨t',rfl⟩:=a;show PySem.EqMixed.ne_str_int (jk I q (by simp))
  | str j=>obtain⟨t',rfl⟩:=a;show ne_str (jk I q (QG not z9Z))
  | _=>show nf' hs
 | byt i=>
  obtain⟨t,rfl⟩:=b;cases y with
  | byt j=>obtain⟨t',rfl⟩:=a;show PySem.W.ne_bytes (jk I q (QG not z91))
  | _=>show nf' hs
 | _=>cases y<;>show nf' hs
def z4Y:OpR X (compareOp .Lt) (rI0 λi j=> .bl (decide (i<j))):=zeo λv v v v v v v q=>lt_int q
def zec:OpR X (compareOp .LtE) (rI0 λi j=> .bl (decide (i<=j))):=zeo λv v v v v v v q=>le_int q
def z6b:OpR X (compareOp .Gt) (rI0 λi j=> .bl (decide (j<i))):=zeo λv v v v v v v q=>gt_int q
theorem zff:OpR X (compareOp .Is) (λx y H Q=>y= .non/\Q (.bl (decide (x= .non))) H):=by
 intro A2 s σ H x y v u Q I a b h;obtain⟨rfl,q⟩:=h;cases b;show is_none_gen (jk I q ?_);cases x<;>first
  | (cases a;rfl)
  | (obtain⟨t,rfl⟩:=a;rfl)
theorem z6s:OpR X (compareOp .IsNot) (λx y H Q=>y= .non/\Q (.bl (!decide (x= .non))) H):=by
 intro A2 s σ H x y v u Q I a b h;obtain⟨rfl,q⟩:=h;cases b;show isnot_none_gen (jk I q ?_);cases x<;>first
  | (cases a;rfl)
  | (obtain⟨t,rfl⟩:=a;rfl)
theorem zbC(b:Expr)(h: ~~~(op≠ .In))(h2: ~~~(op≠ .NotIn)):behindInMarks op b=false:=by
 have c:(op == CmpOp.In)=false:=by cases op<;>first|rfl|show absurd rfl h
 have a:(op == CmpOp.NotIn)=false:=by cases op<;>first|rfl|show absurd rfl h2
 cases b<;>simp[behindInMarks,c,a]
theorem z4a{r:R2}(d:OpR X (compareOp op) r)(ha:PE X a ta)(c:PE X b tb)(hm:behindInMarks op b=false):PE X (.Compare a [op] [b] pos) (tOp r ta tb):=by
 intro A2 s σ H Q I h;show wpAny_Compare1 (zeI ha c I h λv u j x y H2 f e i q=>d A2 j σ H2 x y v u Q f e i q) hm
def zeg(t:TE):TT:=λσ H Q=>t σ H λx H'=>∃k,x= .bl k/\Q k H'
theorem z0b{r:R2}(f:OpR X (compareOp op) r)(ha:PE X a ta)(d:PE X b tb)(hm:behindInMarks op b=false):PT X (.Compare a [op] [b] pos) (zeg (tOp r ta tb)):=by
 intro A2 s σ H Q I h;show wpAny_isTrue_Compare1 (thn (ha A2 s σ H _ I h) λv w ⟨x,H1,i,r1,o⟩=>thn (d A2 w σ H1 _ i o) λu t ⟨y,H2,l,r2,n⟩=>
  thn (f A2 t σ H2 x y v u _ l r1 r2 n) λc A ⟨z,j,p,r3,k,e,q⟩=>?_) hm
 subst e;cases r3;show w0k (j,p,q)
def zfF(K:W.Frag)(x:V)(H:Hp)(k:Bool):Prop:=
 match x with
 | .non=>k=false
 | .bl b=>k=b
 | .int i=>k=(i != 0)
 | .str y=>y.length<=AI/\k=((y.length:Int) != 0)
 | .byt y=>y.size<=AI/\k=((y.size:Int) != 0)
 | .ref p=>(∃xs,SqL K H p xs/\k= !xs.isEmpty)\/(∃xs,SqT K H p xs/\k= !xs.isEmpty)\/∃kvs,H p=AA (.dK kvs)/\k= !kvs.isEmpty
 | _=>False
theorem z8t{kvs:List (κ×V)}{vs:List (κ×AC)}(r:KV kvs vs):(!vs.isEmpty)= !kvs.isEmpty:=by
 cases r<;>rfl
theorem z4J{aa:List AC}(r:zS xs aa):(!aa.toArray.isEmpty)= !xs.isEmpty:=by
 cases r<;>simp
theorem z2G:(AI:Nat)<2 ^ 63:=by rw[Qp];decide
theorem zeu:zgU X (λx H Q=>∃k,zfF X.K x H k/\Q k H):=by
 intro A2 s σ H x v Q I c h;obtain⟨k,e,q⟩:=h;have hl:=z2G;have hs:AI=16777216:=Qp;cases x with
 | non=>
  cases c;have a:k=false:=e;subst a;show truthy_none (H,I,q)
 | bl b=>
  cases c;have a:k=b:=e;subst a;show w0k (H,I,q)
 | int i=>
  obtain⟨t,rfl⟩:=c;have a:k=(i != 0):=e;subst a;show PySem.P.truthy_int (H,I,q)
 | str y=>
  obtain⟨t,rfl⟩:=c;obtain⟨f,a⟩:y.length<=AI/\k=((y.length:Int) != 0):=e;subst a;show PySem.P.truthy_str (by lia) (H,I.tok _,q)
 | byt y=>
  obtain⟨t,rfl⟩:=c;obtain⟨f,a⟩:y.size<=AI/\k=((y.size:Int) != 0):=e;subst a;show PySem.W.truthy_bytes (by lia) (H,I.tok _,q)
 | ref p=>
  cases c;have a:(∃xs,SqL X.K H p xs/\k= !xs.isEmpty)\/(∃xs,SqT X.K H p xs/\k= !xs.isEmpty)\/∃kvs,H p=AA (.dK kvs)/\k= !kvs.isEmpty:=e
  rcases a with⟨xs,hx,a⟩|⟨xs,hx,a⟩|⟨kvs,hx,a⟩
  .subst a;obtain⟨aa,r,pl,hz⟩:=I.list hx;have hlen:=r.length;show wpAny_truthy_list pl.isList (by simp only[wB];lia) (H,I.tok _,by rw[z4J r];show q)
  .subst a;obtain⟨aa,r,pl,hz⟩:=I.tuple hx;have hlen:=r.length;show truthy_tuple pl (by simp only[wB];lia) (H,I.tok _,by rw[z4J r];show q)
  .subst a;obtain⟨hz,d,vs,r,m⟩:kvs.length<=AI/\(p == sysModules)=false/\∃vs,KV kvs vs/\s.heap.DictOf (jC X.prog X.w) p vs:=I.hok p _ hx
   have hlen:kvs.length=vs.length:=Paired.length r;show wpAny_truthy_dict d m (by lia) (H,I.tok _,by rw[z8t r];show q)
 | _=>show(show False from e).elim
theorem z1U(ha:PE X a ta)(he:∀whole,isTrue a X.env whole=(do let v<-whole;standAt a.pos;holding [v] (truthy v))):
  PT X a (λσ H Q=>ta σ H λx H'=>∃k,zfF X.K x H' k/\Q k H'):=by
 intro A2 s σ H Q I h;show isTrue_plain (thn (ha A2 s σ H _ I h) λv d ⟨x,H1,c,r1,b⟩=>zeu A2 d σ H1 x v Q c r1 b) (he _)
theorem zo:OpR X (binaryOp .Add) (λx y H Q=>∃i j,x= .str i/\y= .str j/\i.length+j.length<=AI/\Q (.str (i++j)) H):=by
 intro A2 s σ H x y v u Q I a b h;obtain⟨i,j,rfl,rfl,hz,q⟩:=h;obtain⟨t,rfl⟩:=a;obtain⟨t',rfl⟩:=b;show add_str (λt' tk=>(.str (i++j),H,I.tok _,(_,rfl),q)) hz
theorem vals1{x:V}(r:zS [x] us):∃u,us= [u]/\RelV x u:=by
 cases r with
 | cons r1 r2=>cases r2;show(_,rfl,r1)
theorem vals2{x:V}(r:zS [x,y] us):∃u a,us= [u,a]/\RelV x u/\RelV y a:=by
 cases r with
 | cons r1 r2=>
  cases r2 with
  | cons r3 b=>cases b;show(_,_,rfl,r1,r3)
theorem zap(hc:X.calm=true):kr X (.builtin "max") (λxs H Q=>∃i j,xs= [.int i,.int j]/\Q (.int (if j > i then j else i)) H):=by
 intro A2 s σ H xs us Q I r h;obtain⟨i,j,rfl,q⟩:=h;obtain⟨u,a,rfl,⟨t,rfl⟩,⟨t',rfl⟩⟩:=vals2 r;show max_two_ints (I.ok.hd hc) λh' tk k=>(_,H,I.kept k,?_,q)
 by_cases hj:j > i
 .rw [qc hj,qc hj];show(_,rfl)
 .rw [wW hj,wW hj];show(_,rfl)
theorem z5S(hc:X.calm=true):kr X (.builtin "min") (λxs H Q=>∃i j,xs= [.int i,.int j]/\Q (.int (if j<i then j else i)) H):=by
 intro A2 s σ H xs us Q I r h;obtain⟨i,j,rfl,q⟩:=h;obtain⟨u,a,rfl,⟨t,rfl⟩,⟨t',rfl⟩⟩:=vals2 r;show min_two_ints (I.ok.hd hc) λh' tk k=>(_,H,I.kept k,?_,q)
 by_cases hj:j<i
 .rw [qc hj,qc hj];show(_,rfl)
 .rw [wW hj,wW hj];show(_,rfl)
theorem z5P:kr X (.type "int") (λxs H Q=>(∃i,xs= [.int i]/\Q (.int i) H)\/∃k,xs= [.bl k]/\Q (.int (if k then 1 else 0)) H):=by
 intro A2 s σ H xs us Q I r h;rcases h with⟨i,rfl,q⟩|⟨k,rfl,q⟩
 .obtain⟨u,rfl,t,rfl⟩:=vals1 r;show call_int_int (.int i,H,I,(_,rfl),q)
 .obtain⟨u,rfl,r1⟩:=vals1 r;cases r1;show call_int_bool (.int (if k then 1 else 0),H,I.tok _,(_,rfl),q)
theorem z6X:kr X (.type "str") (λxs H Q=>∃i,xs= [.int i]/\i.natAbs.log2<1920/\Q (.str (toString i)) H):=by
 intro A2 s σ H xs us Q I r h;obtain⟨i,rfl,hz,q⟩:=h;obtain⟨u,rfl,t,rfl⟩:=vals1 r;show PySem.P.str_of_int hz (.str _,H,I.tok _,(_,rfl),q)
end
structure ObjM(h:AN)(x dx C:AD)(mA:Str->Option AC):Prop where
 obj:h.get? x=AA (PySem.W.instObj C dx)
 ns:h.Ns1 dx mA
 ne:dx≠x
variable{dx:AD}{mA:Str->Option AC}
theorem zaH(n:h.Ns1 dx mA):∃od,h.get? dx=AA od/\∀name,PySem.W.lookIn name od=AA (mA name):=by
 obtain⟨o,es,ep,b,hd,c,_,hm⟩:=n;show(o,b,λname=>?_);have e:=hm name;unfold nsFind findBy at e;rw[<-Array.find?_toList]at e;unfold PySem.W.lookIn;rw[hd];dsimp only;split
 .rename_i q;rw[q]at e;show QG AA e
 .rename_i q;rw[q]at e;have a:es.toList.any (·.refKey)=false:=by
   rw[List.any_eq_false];intro y f;obtain⟨z,t,d⟩:=c y (Array.mem_toList_iff.mp f);simp[DictEntry.refKey,d]
  have a':¬es.toList.any (·.refKey)=true:=by rw[a];show wQ
  rw[wW a'];show QG AA e
variable{C:AD}
theorem ObjM.look{x:AD}(I:ObjM h x dx C mA):∃od,PySem.W.InstAt h x (PySem.W.instObj C dx) C (AA od)/\∀name,PySem.W.lookIn name od=AA (mA name):=
 let ⟨od,ho,hl⟩:=zaH I.ns
 (od,(I.obj,rfl,rfl,ho),hl)
variable{prog:AM}{kw:List (Str×AC)}
section
variable{K:W.Frag}{x f:AD}{name:Str}{v:AC}
theorem get_map{expr:Bool}(X:K.In s.heap)(I:ObjM s.heap x dx C mA)(b:PySem.W.plainGet K C name=true)(a:PySem.W.hasDictIn K C=true)
  (ha:PySem.W.findIn K (.ref C) name=AA AB)(c:mA name=AA v)(d:PySem.W.handedIn v=true)(h:Q v {s with toks:=s.toks+1}):
  AT (AV prog w) A (getAttr (.ref x) name expr) Q E s:=by
 obtain⟨od,J,hl⟩:=I.look;show PySem.W.get_value X J (PySem.W.plainGet_of b).1 (PySem.W.findObj_own a ha rfl (by rw[hl,c])) d h
theorem zbB{pl:Sem Bool}{Q:AC×List AC->AE->Prop}(X:K.In s.heap)(I:ObjM s.heap x dx C mA)(a:PySem.W.plainGet K C name=true)
  (c:PySem.W.findIn K (.ref C) name=AA (AA (.ref f)))(ht:PySem.W.isFn K (.ref f)=true)(b:mA name=AB)(h:Q (.ref f,[.ref x]) s):
  AT (AV prog w) A (getMethod (.ref x) name pl) Q E s:=by
 obtain⟨od,J,hl⟩:=I.look;show PySem.W.method_fn X J (PySem.W.plainGet_of a).1 (PySem.W.plainGet_of a).2 c (Qb.mp ht) (by change(PySem.W.lookIn name od).map (·.isSome)=AA false;rw[hl,b];rfl) h
theorem zdD{ns:List Str}{Q:Unit->AE->Prop}(X:K.In s.heap)(I:ObjM s.heap x dx C mA)
  (hs:PySem.W.findIn K (.ref C) "__setattr__"=AA (AA (.builtin "object.__setattr__")))(i:PySem.W.plainOver K C=true)(ht:PySem.W.takerIn K C name=AA AB)(n:PySem.W.hasDictIn K C=true)
  (j:PySem.Within mA ns)(hsz:ns.length<=AI)
  (h:∀h',ObjM h' x dx C (λy=>if y=name then AA v else mA y)->Heap.SameBut dx s.heap h'->Q () {s with heap:=h',toks:=s.toks+2}):
  AT (AV prog w) A (setAttr (.ref x) name v) Q E s:=by
 obtain⟨od,J,hl⟩:=(I.look);show PySem.W.set_plain X J hs (PySem.W.osa_open (s:={s with toks:=s.toks+1}) (r:=AB) X J i ht λb=>?_);obtain⟨cd,hc,l⟩:=(PySem.W.any_some n);have o:s.heap.get? x=AA (.ref C,AA dx,.plain,#[]):=I.obj;show wu (wN (wu (wu (wpAny_loadPart o (wu (PySem.W.Looks.here (s:={s with toks:=s.toks+1}) (PySem.W.looks_clsIn X hc) ?_))))));rw[l];show wN (a:=AA dx) (wu (wN (wu ?_)));show wpAny_nsSet1 (s:={s with toks:=s.toks+1}) I.ns λh' d c=>?_
 obtain⟨t,q,u,e,f,p⟩:=(d.count (PySem.Within.cons name v j));show wu (wpAny_lookBehind e (by rw[f];show pastItsLine_dict (wG p (by rw[wP];lia))) ?_);show wN (h _ ((c.2 _ (w0K I.ne)).trans I.obj,d,I.ne) c)
theorem zc2{R:Result->AE->Prop}{vs:List AC}(X:K.In s.heap)(hm:PySem.W.makesIn K C=true)
  (hi:PySem.W.findIn K (.ref C) "__init__"=AA (AA (.ref f)))(a:PySem.W.typeIn K (.ref f)=AA (.type "function"))
  (h:codeAny (AV prog w) (A.under (.builtin "type.__call__" (.ref C::vs,kw))) (.call (.ref f) (.ref (s.heap.objs.size+1)::vs,kw)) (PySem.W.InitBack (s.heap.objs.size+1) R)
   {s with heap:=(s.heap.push PySem.W.emptyDict).push (PySem.W.instObj C s.heap.objs.size)}):
  codeAny (AV prog w) A (.call (.ref C) (vs,kw)) R s:=by
 obtain⟨b,g,d,t,os⟩:=s;show PySem.W.make_core (PySem.W.makes_of X hm) (PySem.W.looks_findIn X hi) (λself=>PySem.W.bind_fn X self a) (.inl rfl) h
end
noncomputable def ke(f:Str)(v:V):List (Str×V)->List (Str×V)
 | []=> [(f,v)]
 | (g,x)::r=>if g=f then(g,v)::r else(g,x)::ke f v r
theorem z3Q(f g:Str)(v:V):∀fs:List (Str×V),(ke f v fs).lookup g=if g=f then AA v else fs.lookup g
 | []=>by
  change List.lookup g [(f,v)]=_
  by_cases h:g=f
  .have a:(g == f)=true:=Qb.mpr h;simp only[List.lookup,a,qc h]
  .have a:(g == f)=false:=w0r.mpr h;simp only[List.lookup,a,wW h]
 | (k,x)::r=>by
  have b:=z3Q f g v r;rw[show ke f v ((k,x)::r)=(if k=f then(k,v)::r else(k,x)::ke f v r)from rfl];by_cases hk:k=f
  .rw [qc hk];by_cases h:g=k
   .have a:(g == k)=true:=Qb.mpr h;simp only[List.lookup,a,qc (h.trans hk)]
   .have a:(g == k)=false:=w0r.mpr h;simp only[List.lookup,a,wW (λe:g=f=>h (e.trans hk.symm))]
  .rw [wW hk];by_cases h:g=k
   .have a:(g == k)=true:=Qb.mpr h;simp only[List.lookup,a,wW (λe:g=f=>hk (h.symm.trans e))]
   .have a:(g == k)=false:=w0r.mpr h;simp only[List.lookup,a];show b
theorem z3m(f:Str)(v:V):∀fs:List (Str×V),f∈(ke f v fs).map (·.1)/\∀g,g∈fs.map (·.1)->g∈(ke f v fs).map (·.1)
 | []=>(by simp[ke],λg h=>by simp at h)
 | (k,x)::r=>by
  obtain⟨b,a⟩:=z3m f v r;rw[show ke f v ((k,x)::r)=(if k=f then(k,v)::r else(k,x)::ke f v r)from rfl];by_cases hk:k=f
  .rw [qc hk];subst hk;show(by simp,λg h=>by simpa using h)
  .rw [wW hk];show(?_,λg h=>?_)
   .rw [qK];show q5 _ b
   .rw [qK]at h ⊢;rcases wF.mp h with e|e
    .exact wF.mpr (.inl e)
    .exact q5 _ (a g e)
theorem z3N(f:Str)(v:V):∀fs:List (Str×V),(ke f v fs).length<=fs.length+1
 | []=>by simp[ke]
 | (k,x)::r=>by
  have a:=z3N f v r;rw[show ke f v ((k,x)::r)=(if k=f then(k,v)::r else(k,x)::ke f v r)from rfl];by_cases hk:k=f
  .rw [qc hk,wP,wP];lia
  .rw [wW hk,wP,wP];lia
theorem z1P.some_of{v:V}{o:Option AC}(r:z1P (AA v) o):∃u,o=AA u/\RelV v u:=by
 cases o with
 | none=>show(show False from r).elim
 | some u=>show(u,rfl,r)
theorem z1P.none_of{o:Option AC}(r:z1P AB o):o=none:=by
 cases o with
 | none=>rfl
 | some u=>show(show False from r).elim
theorem zaq{v:V}(r:RelV v u):PySem.W.handedIn u=true:=by
 cases v with
 | non=>cases (show u=Value.none from r);rfl
 | bl b=>cases (show u=Value.bool b from r);rfl
 | int i=>obtain⟨t,e⟩:=(show∃t,u=Value.int i t from r);cases e;rfl
 | str x=>obtain⟨t,e⟩:=(show∃t,u=Value.str x t from r);cases e;rfl
 | byt b=>obtain⟨t,e⟩:=(show∃t,u=Value.bytes b t from r);cases e;rfl
 | flt b=>obtain⟨t,e⟩:=(show∃t,u=Value.float b t from r);cases e;rfl
 | ref a=>cases (show u=Value.ref a from r);rfl
 | ty n=>cases (show u=Value.type n from r);rfl
section
variable{fs iU:List (Str×V)}
theorem z48(hok:HOk P w H h)(e:H a=AA (.ins C dx fs)):∃mA,ObjM h a dx C mA/\(∀f,z1P (fs.lookup f) (mA f))/\PySem.Within mA (fs.map (·.1))/\fs.length<=1000/\H dx=AA (.own a):=by
 obtain⟨d,z,ne,b,mA,n,r,q⟩:=((show jh P w H h a (.ins C dx fs)from hok a _ e));show(mA,(b,n,ne),r,q,z,d)
end
structure Cls(K:W.Frag)(C:AD):Prop where
 pg:PySem.W.plainGet K C Str.empty=true
 hd:PySem.W.hasDictIn K C=true
 po:PySem.W.plainOver K C=true
 sa:PySem.W.findIn K (.ref C) "__setattr__"=AA (AA (.builtin "object.__setattr__"))
theorem Cls.get{K:W.Frag}{C:AD}(c:Cls K C)(f:Str):PySem.W.plainGet K C f=true:=c.pg
def NoAttr(K:W.Frag)(C:AD)(f:Str):Prop:=PySem.W.findIn K (.ref C) f=AA AB
theorem NoAttr.taker{f:Str}(n:NoAttr K C f):PySem.W.takerIn K C f=AA none:=by
 unfold PySem.W.takerIn;rw[show PySem.W.findIn K (.ref C) f=AA AB from n]
 rfl
structure Meth(K:W.Frag)(C:AD)(m:Str)(f:AD):Prop where
 at_:PySem.W.findIn K (.ref C) m=AA (AA (.ref f))
 fn:PySem.W.isFn K (.ref f)=true
 kp:PySem.W.keepIn K (.ref f)=true
section
variable{σ:St}{fs:List (Str×V)}{f:Str}{v:V}
theorem z8s{b:Bool}(I:Inv X A2 σ H s)(e:H a=AA (.ins C dx fs))(c:Cls X.K C)(n:NoAttr X.K C f)(l:fs.lookup f=AA v)
  (h:∀u s',Inv X A2 σ H s'->RelV v u->Q u s'):AT (AV X.prog X.w) A (getAttr (.ref a) f b) Q E s:=by
 obtain⟨mA,O,r,_,_,_⟩:=z48 I.hok e;obtain⟨u,i,d⟩:=z1P.some_of (v:=v) (o:=mA f) (by rw[<-l];show r f);show get_map I.kIn O (c.get f) c.hd n i (zaq d) (h u _ (I.tok _) d)
theorem z2E{m:Str}{g:AD}{pl:Sem Bool}{Q:AC×List AC->AE->Prop}(I:Inv X A2 σ H s)(e:H a=AA (.ins C dx fs))(c:Cls X.K C)(k:Meth X.K C m g)(l:fs.lookup m=AB)
  (h:Q (.ref g,[.ref a]) s):AT (AV X.prog X.w) A (getMethod (.ref a) m pl) Q E s:=by
 obtain⟨mA,O,r,_,_,_⟩:=z48 I.hok e;have hn:mA m=none:=z1P.none_of (by rw[<-l];show r m);show zbB I.kIn O (c.get m) k.at_ k.fn hn h
theorem z8E{Q:Unit->AE->Prop}(I:Inv X A2 σ H s)(e:H a=AA (.ins C dx fs))(c:Cls X.K C)(n:NoAttr X.K C f)(hl:fs.length<1000)(t:RelV y u)
  (h:∀s',Inv X A2 σ (upd H a (.ins C dx (ke f y fs))) s'->Q () s'):AT (AV X.prog X.w) A (setAttr (.ref a) f u) Q E s:=by
 obtain⟨mA,O,r,wi,_,i⟩:=z48 I.hok e;have hz:(fs.map (·.1)).length<=sizeLine:=by rw[wa,Qp];lia
 show zdD I.kIn O c.sa c.po n.taker c.hd wi hz λh' d l=>h _ ?_
 have hd:∃o,h'.get? dx=AA o:=let ⟨o,_,_,e',_⟩:=d.ns;(o,e')
 show I.write (x:=a) (e:=dx) (by rw[e];show w0m) (.inr i) (λb q j z=>(l.2 b j).trans z) hd ?_;show(by rw[zn O.ne];show i,?_,O.ne,d.obj,_,d.ns,λg=>?_,λg p=>?_)
 .have:=z3N f y fs;lia
 .show z1P ((ke f y fs).lookup g) (if g=f then AA u else mA g)
  rw[z3Q];by_cases q:g=f
  .rw [qc q,qc q];show t
  .rw [wW q,wW q];show r g
 .by_cases q:g=f
  .rw [q];show(z3m f y fs).1
  .refine(z3m f y fs).2 g (wi g λz=>p ?_)
   change(if g=f then AA u else mA g)=AB
   rw[wW q];show z
theorem Inv.made(I:Inv X A2 σ H s):Inv X A2 σ (upd (upd H s.heap.objs.size (.own (s.heap.objs.size+1))) (s.heap.objs.size+1) (.ins C s.heap.objs.size []))
  {s with heap:=(s.heap.push PySem.W.emptyDict).push (PySem.W.instObj C s.heap.objs.size)}:=by
 have c:(s.heap.push PySem.W.emptyDict).get? s.heap.objs.size=AA PySem.W.emptyDict:=wX s.heap rfl;have h:((s.heap.push PySem.W.emptyDict).push (PySem.W.instObj C s.heap.objs.size)).get? (s.heap.objs.size+1)=AA (PySem.W.instObj C s.heap.objs.size):=by
  have:=wX (s.heap.push PySem.W.emptyDict) (o:=PySem.W.instObj C s.heap.objs.size) rfl
  rwa [Qi]at this
 have d:(s.heap.push PySem.W.emptyDict).Ns s.heap.objs.size (λv=>AB):=(PySem.W.emptyDict,#[],_,c,rfl,(λe he=>absurd he (by simp)),λv=>rfl);have f:=I.laid (a:=s.heap.objs.size) (o:= .own (s.heap.objs.size+1)) (h':=s.heap.push PySem.W.emptyDict) (t':=s.toks) (λb u q=>wo _ q) (wy _) (_,c);show f.laid (a:=s.heap.objs.size+1) (o:= .ins C s.heap.objs.size []) (t':=s.toks) (λb u q=>wo _ q) (w1P (Qi _ _)) ?_;have ne:s.heap.objs.size≠s.heap.objs.size+1:=wS (w0C _);show(by rw[zn ne,zm],qN _,ne,h,λv=>AB,(Heap.Ns1.of_empty d).at λo q=>wo _ q,λv=>w0m,λy i=>absurd rfl i)
theorem zdi{env:Env}(a:attributeBase e f env (eval e env)=eval e env)
  (h:AT (AV prog w) A (eval e env) (λo b=>AT (AV prog w) A (getAttr o f true) Q E b) E s):AT (AV prog w) A (eval (.Attribute e f pos) env) Q E s:=
 Attribute_any_ h (by rw[arm_eval_Attribute,a])
end
def zg0(K:W.Frag)(ta:TE)(f:Str):TE:=λσ H Q=>ta σ H λx H1=>∃a C dx fs v,x= .ref a/\H1 a=AA (.ins C dx fs)/\Cls K C/\NoAttr K C f/\fs.lookup f=AA v/\Q v H1
def zeB(K:W.Frag)(ta tv:TE)(f:Str):TS:=λD σ H=>tv σ H λy H1=>ta σ H1 λx H2=>∃a C dx fs,x= .ref a/\H2 a=AA (.ins C dx fs)/\Cls K C/\NoAttr K C f/\fs.length<1000/\
 D.nx σ (upd H2 a (.ins C dx (ke f y fs)))
section
variable{o value:Expr}{f:Str}{pos' oQ:Pos}{ta tv:TE}
theorem zF(he:PE X e ta)(b:attributeBase e f X.env (eval e X.env)=eval e X.env):PE X (.Attribute e f pos) (zg0 X.K ta f):=by
 intro A2 s σ H Q I h;show zdi b (thn (he A2 s σ H _ I h) ?_);rintro u t ⟨x,H1,i,d,a,C,dx,fs,v,ex,ea,c,n,l,q⟩;subst ex;obtain rfl:u=Value.ref a:=d;show z8s i ea c n l λp r j o=>(v,H1,j,o,q)
theorem z0Q(ha:PE X o ta)(p:PE X value tv)(hs:swapsWith value (AA (.Attribute o f pos')) pos.line X.env=pure false):PS X (.Assign [.Attribute o f pos'] value pos) (zeB X.K ta tv f):=by
 intro A2 s σ H D I h;show plainObj_wpAny_Assign_Attribute (thn (p A2 s σ H _ I h) ?_) hs;rintro u w ⟨y,H1,d,i,q⟩;show thn (ha A2 w σ H1 _ d q) ?_;rintro t A ⟨x,H2,e,b,a,C,dx,fs,ex,ea,c,n,l,j⟩;subst ex;obtain rfl:t=Value.ref a:=b;show z8E e ea c n l i λz r=>(σ,_,r,j)
end
section
variable{σ:St}{c:AC}{b:Bool}
inductive TyOf(K:W.Frag)(H:Hp):V->AC->Prop where
 | non:TyOf K H .non (.type "NoneType")
 | bl (x:Bool):TyOf K H (.bl x) (.type "bool")
 | int (i:Int):TyOf K H (.int i) (.type "int")
 | str (x:Str):TyOf K H (.str x) (.type "str")
 | flt (x:UInt64):TyOf K H (.flt x) (.type "float")
 | lst {a:AD} {xs:List V} (e:H a=AA (.lst xs)):TyOf K H (.ref a) (.type "list")
 | frz {a:AD} {o:Obj} {xs:List V} (e:H a=AA (.frz o (.lst xs))):TyOf K H (.ref a) (.type "list")
 | tup {a:AD} {xs:List V} (e:H a=AA (.tup xs)):TyOf K H (.ref a) (.type "tuple")
 | dK {a:AD} {kvs:List (Key×V)} (e:H a=AA (.dK kvs)):TyOf K H (.ref a) (.type "dict")
 | dT {a:AD} {kvs:List (List Key×V)} (e:H a=AA (.dT kvs)):TyOf K H (.ref a) (.type "dict")
 | ins {a C dx:AD} {fs:List (Str×V)} (e:H a=AA (.ins C dx fs)) (cl:Cls K C) (ha:PySem.W.findIn K (.ref C) "__class__"=AA (AA (.builtin "object.__class__")))
   (hn:PySem.W.specialIn K (.builtin "object.__class__") "__get__"=AA (AA (.builtin "getset_descriptor.__get__"))) (sV:PySem.W.takesIn K (.builtin "object.__class__")=AA true)
   (hm:PySem.W.mroIn K C (.type "object")=AA true):TyOf K H (.ref a) (.ref C)
theorem zaG{x:V}{t:AC}(I:Inv X A2 σ H s)(d:RelV x u)(ty:TyOf X.K H x t)(e:PySem.W.kitOne X.K t c=AA b)(h:∀tk,Q (.bool b) {s with toks:=tk}):
  AT (AV X.prog X.w) A (call (.builtin "isinstance") [u,c]) Q E s:=by
 cases ty with
 | non=>cases (show u=Value.none from d);show Qw PySem.W.kitx_none I.kIn w0m e (λz=>nomatch z) h
 | bl y=>cases (show u=Value.bool y from d);show Qw PySem.W.kitx_bool I.kIn w0m e (λz=>nomatch z) h
 | int i=>obtain⟨t,q⟩:=(show∃t,u=Value.int i t from d);cases q;show Qw PySem.W.kitx_int I.kIn w0m e (λz=>nomatch z) h
 | str y=>obtain⟨t,q⟩:=(show∃t,u=Value.str y t from d);cases q;show Qw PySem.W.kitx_str I.kIn w0m e (λz=>nomatch z) h
 | flt y=>obtain⟨t,q⟩:=(show∃t,u=Value.float y t from d);cases q;show Qw PySem.W.kitx_float I.kIn w0m e (λz=>nomatch z) h
 | @lst a xs ea=>
  cases (show u=Value.ref a from d);obtain⟨_,_,n,_,h1⟩:=(show jh X.prog X.w H s.heap a (.lst xs)from I.hok a _ ea);show Qw PySem.W.kitx_list I.kIn (_,h1,rfl) e (λz=>nomatch z) h
 | @frz a j xs ea=>
  cases (show u=Value.ref a from d);obtain⟨_,_,_,n,_,h1⟩:=(show jh X.prog X.w H s.heap a (.frz j (.lst xs))from I.hok a _ ea);show Qw PySem.W.kitx_list I.kIn (_,h1,rfl) e (λz=>nomatch z) h
 | @tup a xs ea=>
  cases (show u=Value.ref a from d);obtain⟨_,_,_,p⟩:=(show jh X.prog X.w H s.heap a (.tup xs)from I.hok a _ ea);obtain⟨o,h1,h2,_⟩:=p;show Qw PySem.W.kitx_tuple I.kIn (o,h1,h2) e (λz=>nomatch z) h
 | @dK a kvs ea=>
  cases (show u=Value.ref a from d);obtain⟨_,_,vs,_,p⟩:=(show jh X.prog X.w H s.heap a (.dK kvs)from I.hok a _ ea);obtain⟨o,es,ep,h1,h2,_⟩:=p;show Qw PySem.W.kitx_dict I.kIn (o,h1,h2.1) e (λz=>nomatch z) h
 | @dT a kvs ea=>
  cases (show u=Value.ref a from d);obtain⟨_,_,xs,_,o,es,ep,h1,h2,_⟩:=(show jh X.prog X.w H s.heap a (.dT kvs)from I.hok a _ ea);show Qw PySem.W.kitx_dict I.kIn (o,h1,h2.1) e (λz=>nomatch z) h
 | @ins a C dx fs ea f ha hn l hm=>
  cases (show u=Value.ref a from d);obtain⟨mA,O,_⟩:=z48 I.hok ea;obtain⟨od,J,_⟩:=O.look;show Qw (PySem.W.kitx_own (f.get _) f.hd ha hn l hm) I.kIn J e (λz=>nomatch z) h
end
structure Room(k:Nat)(A:Aj):Prop where
 hd:A.handled=AB
 dp:A.depth+3*k+5<recursionLimit
 un:A.units+16*k+200<cLine
theorem Room.mono{j k:Nat}(r:Room k A)(h:j<=k):Room j A:=(r.hd,by have:=r.dp;lia,by have:=r.un;lia)
theorem Room.deeper{k:Nat}(r:Room (k+1) A)(env:Env):Room k (A.deeper env):=
 (r.hd,by have:=r.dp;change A.depth+1+3*k+5<_;lia,by have:=r.un;change A.units+3+16*k+200<_;lia)
theorem z8b:(A.under (.builtin "type.__call__" (.ref C::us,kw))).depth=A.depth+1:=by
 first|rfl|simp[Around.under,Code.weight,Code.isCreation,Code.isGuard,Code.isCaller,Code.frames,Code.isFrame,guardIds]
theorem z8S:(A.under (.builtin "type.__call__" (.ref C::us,kw))).units=A.units+1:=by
 first|rfl|simp[Around.under,Code.cUnits,Code.frames,Code.isFrame]
theorem Room.make{k:Nat}(r:Room (k+1) A)(C:AD)(us:List AC)(kw:List (Str×AC)):Room k (A.under (.builtin "type.__call__" (.ref C::us,kw))):=
 (r.hd,by have:=r.dp;rw[z8b];lia,by have:=r.un;rw[z8S];lia)
theorem Room.depth{k:Nat}(r:Room k A):A.depth<recursionLimit:=by have:=r.dp;lia
theorem Room.units{k:Nat}(r:Room k A):A.units+64<cLine:=by have:=r.un;lia
def zdB:TA:=λv H Q=>Q [] H
def z1I(ta:TE)(tr:TA):TA:=λσ H Q=>ta σ H λx H1=>tr σ H1 λxs H2=>Q (x::xs) H2
variable{t:TA}
section
variable{te:TE}
def zb:PA X [] zdB:=λv v v v H Q I h=>w0n ([],H,I,.nil,h)
theorem zP(ha:PE X e te)(a:PA X es t)(hs:e∣es):PA X (e::es) (z1I te t):=by
 intro pos A2 s σ H Q I h;rw[hs]
 change AT _ _ (spliced ((false,eval e X.env)::backTo pos (AJ es X.env))) _ _ s
 show Qu (thn (ha A2 s σ H _ I h) ?_);rintro u i ⟨x,H1,b,r1,f⟩;show thn (a pos A2 i σ H1 _ b f) λus j ⟨xs,H2,c,r2,d⟩=>(x::xs,H2,c,.cons r1 r2,d)
def zgA(t:TA):TE:=λσ H Q=>t σ H λxs H1=>xs.length<=AI/\∀p,H1 p=AB->Q (.ref p) (upd H1 p (.tup xs))
def zgK(t:TA):TE:=λσ H Q=>t σ H λxs H1=>xs.length<=AI/\∀p,H1 p=AB->Q (.ref p) (upd H1 p (.lst xs))
theorem zu{x1}(h:PA X es t):PE X (.Tuple es x1 pos) (zgA t):=by
 intro A2 s σ H Q I f;show wpAny_Tuple_spliced (thn (h pos A2 s σ H _ I f) ?_);rintro us a ⟨xs,H1,c,r,z,q⟩;show(by rw[<-r.length];show z,?_);have d:H1 a.heap.objs.size=none:=c.hok.fresh (wy _);show(.ref a.heap.objs.size,upd H1 a.heap.objs.size (.tup xs),c.laid (t':=a.toks) (λb u e=>wo _ e) (wy _) ?_,rfl,q _ d);show(z,us,r,(_,wX _ rfl,rfl,_,rfl))
theorem zD(h:PA X es t):PE X (.List es pos) (zgK t):=by
 intro A2 s σ H Q I f;show wpAny_List_spliced (thn (h pos A2 s σ H _ I f) ?_);rintro us a ⟨xs,H1,c,r,z,q⟩;show(by rw[<-r.length];show z,?_);have d:H1 a.heap.objs.size=none:=c.hok.fresh (wy _);show(.ref a.heap.objs.size,upd H1 a.heap.objs.size (.lst xs),c.laid (t':=a.toks) (λb u e=>wo _ e) (wy _) ?_,rfl,q _ d);show(z,us,0,r,wX _ rfl)
end
abbrev Sp:=List V->Hp->VK->XK->Prop
abbrev CXT:=List Env->Hp->AE->XK->AC->AE->Prop
structure Env0(P:AM)(w:Av)(K:W.Frag)(mg:Str->Option AC)(base:AN)(A:Aj)(A3:List Env)(s:AE)(H:Hp):Prop where
 frames:A.frames=AA A3
 mod:Mod K mg base
 bs:∀b o,base.get? b=AA o->s.heap.get? b=AA o/\H b=AB
 bsz:base.objs.size<=s.heap.objs.size
 funs:s.heap.FunFrames base A3
 frf:∀b∈frs A3,H b=AB
 hok:HOk P w H s.heap
 bare:AllBare s.gens
def CE(A3:List Env)(P:AM)(w:Av)(H:Hp)(s:AE)(Q:VK)(u:AC)(s':AE):Prop:=
 ∃v H',s'.os=s.os/\AllBare s'.gens/\Un (frs A3) [] H H' s.heap s'.heap/\HOk P w H' s'.heap/\RelV v u/\Q v H'
def CR(CX:CXT)(A3:List Env)(P:AM)(w:Av)(H:Hp)(s:AE)(Q:VK)(E:XK)(r:Result)(s':AE):Prop:=
 match r with
 | .ok (.ret u)=>CE A3 P w H s Q u s'
 | .ok _=>False
 | .error e=>CX A3 H s E e s'
structure FnOk(P:AM)(w:Av)(K:W.Frag)(mg:Str->Option AC)(base:AN)(CX:CXT)(k:Nat)(f:AD)(fd:A1)(ps:List Str)(sp:Sp):Prop where
 len:∀vs H Q E,sp vs H Q E->vs.length=ps.length
 run:∀(A:Aj)(A3:List Env)(s:AE)(H:Hp)(args:Args)(us:List AC)(vs:List V)(Q:VK)(E:XK),Room k A->Env0 P w K mg base A A3 s H->BindsTo s fd args (ps.zip us)->zS vs us->sp vs H Q E->
  codeAny (AV P w) A (.call (.ref f) args) (CR CX A3 P w H s Q E) s
variable{mg:Str->Option AC}{base:AN}{A3:List Env}
theorem Env0.make(e:Env0 P w K mg base A A3 s H)(C:AD)(us:List AC)(kw:List (Str×AC)):
  Env0 P w K mg base (A.under (.builtin "type.__call__" (.ref C::us,kw))) A3 s H:=(by first|show e.frames|(simpa [Around.under,Code.envs,Code.isFrame,pushEnvs]using e.frames),e.mod,e.bs,e.bsz,e.funs,e.frf,e.hok,e.bare)
section
variable{σ:St}
def Inv.env0(I:Inv X A2 σ H s):Env0 X.prog X.w X.K X.mg X.base X.A X.stack s H:=
 (I.ok.frames,I.ok.mod,I.bs,wG I.ok.bsz I.sz,I.stack,I.stkFree,I.hok,I.bare)
theorem Inv.after{Q:VK}(I:Inv X A2 σ H s)(h:CE X.stack X.prog X.w H s Q u s'):EP X A2 σ Q u s':=by
 obtain⟨v,H',os,bare,un,hok,r,q⟩:=h;obtain⟨a,g,d,t,c⟩:=s';obtain rfl:c=s.os:=os;show(v,H',I.call (h':=a) (g':=g) (d':=d) (t':=t) (ch:= []) un hok bare (λb z=>absurd z (by simp)),r,q)
end
def z94(sp:Sp)(bv:List V)(E:XK)(t:TA):TE:=λσ H Q=>t σ H λvs H1=>sp (vs++bv) H1 Q E
def z9a(C:AD)(m:Str)(sp:Sp)(bv:List V)(E:XK)(ta:TE)(t:TA):TE:=λσ H Q=>ta σ H λx H1=>∃a dx fs,x= .ref a/\H1 a=AA (.ins C dx fs)/\fs.lookup m=AB/\
 t σ H1 λvs H2=>sp (x::(vs++bv)) H2 Q E
def zbo(C:AD)(sp:Sp)(bv:List V)(E:XK)(t:TA):TE:=λσ H Q=>t σ H λvs H1=>∀x dx,H1 x=AB->H1 dx=AB->dx≠x->
 sp (.ref x::(vs++bv)) (upd (upd H1 dx (.own x)) x (.ins C dx [])) (λv H2=>v= .non/\Q (.ref x) H2) E
def Binds(K:W.Frag)(fd:A1)(ps:List Str)(ds:List AC):Prop:=
 ∀(s:AE)(us:List AC),K.In s.heap->(us++ds).length=ps.length->BindsTo s fd (us,[]) (ps.zip (us++ds))
variable{fd:A1}{ps:List Str}
theorem Binds.all(h:∀us:List AC,us.length=ps.length->bindArgs fd (us,[])=pure (ps.zip us)):Binds K fd ps []:=λs us v hl=>by
 rw[w03]at hl ⊢;show .of_eq (h us hl)
def z1i(CX:CXT)(X:Cx)(E:XK):Prop:=∀(A2:List (AD×Obj))(σ:St)(H:Hp)(s:AE)(e:AC)(s':AE),Inv X A2 σ H s->CX X.stack H s E e s'->X.xe e s'
variable{vs:List V}{CX:CXT}{sp:Sp}
section
variable{k:Nat}{f:AD}{bv:List V}{ds:List AC}{E:XK}{m:Str}{apos:Pos}{o:Expr}{ta:TE}
theorem z8p{Q:VK}(F:FnOk X.prog X.w X.K X.mg X.base CX k f fd ps sp)(d:Room k X.A)(c:Binds X.K fd ps ds)(hd:zS bv ds)(b:z1i CX X E)
  (I:Inv X A2 σ H s)(r:zS vs us)(h:sp (vs++bv) H Q E):AT (AV X.prog X.w) X.A (call (.ref f) us) (EP X A2 σ Q) X.xe s:=by
 have r2:zS (vs++bv) (us++ds):=r.append hd;have hl:(us++ds).length=ps.length:=by rw[<-r2.length];show F.len _ _ _ _ h
 show w1g (w04 (F.run X.A X.stack s H (us,[]) (us++ds) (vs++bv) Q E d I.env0 (c s us I.kIn hl) r2 h) λr s' a=>?_);cases r with
 | error e=>show b A2 σ H s e s' I a
 | ok fl=>
  cases fl with
  | ret u=>show I.after a
  | next=>show False.elim a
  | brk=>show False.elim a
  | cont=>show False.elim a
theorem z9F(F:FnOk X.prog X.w X.K X.mg X.base CX k f fd ps sp)(c:Room k X.A)(i:Gl X x)(hm:X.mg x=AA (.ref f))(j:PySem.W.keepIn X.K (.ref f)=true)(b:Binds X.K fd ps ds)(hd:zS bv ds)(n:z1i CX X E)
  (ha:PA X (e::es) t)(d:x∣0)(he:e∣es)(l:((backTo pos (AJ es X.env)).any (·.1)=false)⁻¹):
  PE X (.Call (.Name x p) (e::es) [] pos) (z94 sp bv E t):=by
 intro A2 s σ H Q I h;show Qj (z14 I i hm ?_ d);show w0D (h₀:=X.base) I.ok.mod.kin j (thn (ha pos A2 s σ H _ I h) ?_) he l;rintro us o ⟨vs,H1,a,r,q⟩;show(a.kIn,?_);show z8p F c b hd n a r q
theorem zdo{pl:Sem Bool}(he:PE X o ta)(c:Cls X.K C)(hm:Meth X.K C m f)(F:FnOk X.prog X.w X.K X.mg X.base CX k f fd ps sp)(n:Room k X.A)(j:Binds X.K fd ps ds)(hd:zS bv ds)(B:z1i CX X E)(ha:PA X (e::es) t)
  (D:e∣es)(y:((backTo pos (AJ es X.env)).any (·.1)=false)⁻¹)
  (ht:eval (.Call (.Attribute o m apos) (e::es) [] pos) X.env=(do
   let i<-eval o X.env
   standAt apos.atName
   let (f,first)<-holding [i] (getMethod i m pl)
   callWith pos f first (backTo pos (AJ (e::es) X.env)) (backToKw pos (keywordEach [] X.env))):=by rfl):
  PE X (.Call (.Attribute o m apos) (e::es) [] pos) (z9a C m sp bv E ta t):=by
 intro A2 s σ H Q I h;show PySem.W.methodCall_KW (pl:=pl) (thn (he A2 s σ H _ I h) ?_) ht;rintro u G ⟨x,H1,b,p,a,dx,fs,ex,ea,l,q⟩;subst ex;obtain rfl:u=Value.ref a:=p;show z2E b ea c hm l ?_;show w0D (first:= [.ref a]) (h₀:=X.base) I.ok.mod.kin hm.kp (thn (ha pos A2 G σ H1 _ b q) ?_) D y;rintro us J ⟨vs,H2,d,r,z⟩;show(d.kIn,?_);show z8p (us:= .ref a::us) (vs:= .ref a::vs) F n j hd B d (.cons rfl r) z
theorem zb9{pl:Sem Bool}(he:PE X o ta)(c:Cls X.K C)(hm:Meth X.K C m f)(F:FnOk X.prog X.w X.K X.mg X.base CX k f fd ps sp)(i:Room k X.A)(e:Binds X.K fd ps ds)(hd:zS bv ds)(n:z1i CX X E)
  (ht:eval (.Call (.Attribute o m apos) [] [] pos) X.env=(do
   let d<-eval o X.env
   standAt apos.atName
   let (f,first)<-holding [d] (getMethod d m pl)
   callWith pos f first (backTo pos (AJ [] X.env)) (backToKw pos (keywordEach [] X.env))):=by rfl):
  PE X (.Call (.Attribute o m apos) [] [] pos) (z9a C m sp bv E ta zdB):=by
 intro A2 s σ H Q I h;show PySem.W.methodCall_KW (pl:=pl) (thn (he A2 s σ H _ I h) ?_) ht;rintro u p ⟨x,H1,b,j,a,dx,fs,ex,ea,l,q⟩;subst ex;obtain rfl:u=Value.ref a:=j;show z2E b ea c hm l ?_;show PySem.W.callWith_K0 (first:= [.ref a]) b.kIn hm.kp (z8p (us:= [.ref a]) (vs:= [.ref a]) F i e hd n b (.cons rfl .nil) q)
structure Mk(K:W.Frag)(C f:AD):Prop where
 makes:PySem.W.makesIn K C=true
 init:PySem.W.findIn K (.ref C) "__init__"=AA (AA (.ref f))
 fn:PySem.W.isFn K (.ref f)=true
 kp:PySem.W.keepIn K (.ref C)=true
theorem zcY{Q:VK}(M:Mk X.K C f)(F:FnOk X.prog X.w X.K X.mg X.base CX k f fd ps sp)(i:Room (k+1) X.A)(d:Binds X.K fd ps ds)(hd:zS bv ds)
  (j:z1i CX X E)(I:Inv X A2 σ H s)(r:zS vs us)
  (h:∀x dx,H x=AB->H dx=AB->dx≠x->sp (.ref x::(vs++bv)) (upd (upd H dx (.own x)) x (.ins C dx [])) (λv H2=>v= .non/\Q (.ref x) H2) E):
  AT (AV X.prog X.w) X.A (call (.ref C) us) (EP X A2 σ Q) X.xe s:=by
 have c:=h (s.heap.objs.size+1) s.heap.objs.size (I.hok.fresh (w0L _)) (I.hok.fresh (wy _)) (wS (w0C _));have b:=Inv.made (C:=C) I;have r2:zS (V.ref (s.heap.objs.size+1)::(vs++bv)) (Value.ref (s.heap.objs.size+1)::(us++ds)):= .cons rfl (r.append hd);have hl:(Value.ref (s.heap.objs.size+1)::us++ds).length=ps.length:=by
  have e:=r2.length;rw[F.len _ _ _ _ c]at e;show e.symm
 show w1g (zc2 (f:=f) I.kIn M.makes M.init (Qb.mp M.fn) (w04 (F.run _ X.stack _ _ (Value.ref (s.heap.objs.size+1)::us,[]) (Value.ref (s.heap.objs.size+1)::(us++ds)) _ _ E (i.make C us [])
  (b.env0.make C us []) (d _ (Value.ref (s.heap.objs.size+1)::us) b.kIn hl) r2 c) λr s' a=>?_))
 cases r with
 | error e=>show j A2 σ _ _ e s' b a
 | ok fl=>
  cases fl with
  | ret u=>
   obtain⟨v,H',n,l,ev,o⟩:=b.after a;subst ev;show(l,(V.ref (s.heap.objs.size+1),H',n,rfl,o))
  | next=>show False.elim a
  | brk=>show False.elim a
  | cont=>show False.elim a
theorem z9b(M:Mk X.K C f)(F:FnOk X.prog X.w X.K X.mg X.base CX k f fd ps sp)(c:Room (k+1) X.A)(i:Gl X x)(hm:X.mg x=AA (.ref C))(b:Binds X.K fd ps ds)(hd:zS bv ds)(l:z1i CX X E)
  (ha:PA X (e::es) t)(d:x∣0)(he:e∣es)(j:((backTo pos (AJ es X.env)).any (·.1)=false)⁻¹):
  PE X (.Call (.Name x p) (e::es) [] pos) (zbo C sp bv E t):=by
 intro A2 s σ H Q I h;show Qj (z14 I i hm ?_ d);show w0D (h₀:=X.base) I.ok.mod.kin M.kp (thn (ha pos A2 s σ H _ I h) ?_) he j;rintro us n ⟨vs,H1,a,r,q⟩;show(a.kIn,?_);show zcY M F c b hd l a r q
end
section
variable{k:Nat}{f:AD}{ks:List Str}{E:XK}{m:Str}{apos vL:Pos}{o:Expr}{EN:List Keyword}{te ta:TE}{tk:TA}{nm:Option Str}{g:List AC->List AC->List AC}{gV:List V->List V->List V}
end
structure FnScope(N P:List Str)(sc:Scope):Prop where
 kind:sc.kind= .function
 co:sc.isCoroutine=false
 gen:sc.isGenerator=false
 nd:N.Nodup
 pre:N.take P.length=P
 par:∀x∈P,sc.names.lookup x=AA .local\/sc.names.lookup x=AA .cell
 nofree:∀y∈sc.names,y.2≠ .free
theorem z5A{kindOf:Str->Option AL}{x:Str}:∀{binds:List (Str×AC)} {m:Str->Option AC},(∀v,(x,v)∉binds)->bindL kindOf binds m x=m x
 | [],_,_=>rfl
 | (n,v)::r,m,h=>by
  unfold bindL;rw[z5A λw a=>h w (q5 _ a)];split
  .have:x≠n:=by rintro rfl;show h v qI
   simp[this]
  .rfl
theorem z62{kindOf:Str->Option AL}{x:Str}:∀{binds:List (Str×AC)} {m:Str->Option AC},(∀v,(x,v)∉binds)->bindC kindOf binds m x=m x
 | [],_,_=>rfl
 | (n,v)::r,m,h=>by
  unfold bindC;rw[z62 λw a=>h w (q5 _ a)];split
  .rfl
  .have:x≠n:=by rintro rfl;show h v qI
   simp[this]
theorem z5K{kindOf:Str->Option AL}{x:Str}{v:AC}:∀{P:List Str} {vs:List AC} {i:Nat} {m:Str->Option AC},P.Nodup->P[i]? =AA x->vs[i]? =AA v->kindOf x=AA .local->
  bindL kindOf (P.zip vs) m x=AA v
 | [],_,_,_,_,h,_,_=>by simp at h
 | _::_,[],_,_,_,_,h,_=>by simp at h
 | p::P,w::vs,0,m,nd,h1,h2,a=>by
  simp at h1 h2;subst h1;subst h2
  change bindL kindOf ((p,w)::P.zip vs) m p=_
  unfold bindL;rw[z5A λv b=>(w05.mp nd).1 (List.of_mem_zip b).1,qc a];simp
 | p::P,w::vs,i+1,m,nd,h1,h2,a=>by
  change bindL kindOf ((p,w)::P.zip vs) m x=_
  unfold bindL;show z5K (i:=i) (w05.mp nd).2 (by simpa using h1) (by simpa using h2) a
theorem z5X{kindOf:Str->Option AL}{x:Str}{v:AC}:∀{P:List Str} {vs:List AC} {i:Nat} {m:Str->Option AC},P.Nodup->P[i]? =AA x->vs[i]? =AA v->kindOf x≠AA .local->
  bindC kindOf (P.zip vs) m x=AA v
 | [],_,_,_,_,h,_,_=>by simp at h
 | _::_,[],_,_,_,_,h,_=>by simp at h
 | p::P,w::vs,0,m,nd,h1,h2,a=>by
  simp at h1 h2;subst h1;subst h2
  change bindC kindOf ((p,w)::P.zip vs) m p=_
  unfold bindC;rw[z62 λv b=>(w05.mp nd).1 (List.of_mem_zip b).1,wW a];simp
 | p::P,w::vs,i+1,m,nd,h1,h2,a=>by
  change bindC kindOf ((p,w)::P.zip vs) m x=_
  unfold bindC;show z5X (i:=i) (w05.mp nd).2 (by simpa using h1) (by simpa using h2) a
noncomputable def start(N:List Str)(vs:List V):St:=vs.map AA++List.replicate (N.length-vs.length) AB
noncomputable def z1e(CX:CXT)(P:AM)(w:Av)(K:W.Frag)(mg:Str->Option AC)(base:AN)(N:List Str)(qual:Str)(scope:Scope)(f:AD)(cd:AC)(A:Aj)(A3:List Env)(s:AE)(H:Hp)(E:XK):Cx where
 prog:=P
 w:=w
 K:=K
 mg:=mg
 base:=base
 A:=A.deeper (envOfC qual scope s.heap.objs.size f cd)
 N:=N
 s₀:=s
 H₀:=H
 env:=envOfC qual scope s.heap.objs.size f cd
 A3:=A3
 stack:=envOfC qual scope s.heap.objs.size f cd::A3
 ex:= []
 calm:=true
 fn:=λv=>true
 pn:= []
 xe:=λe s'=>AT (AV P w) (A.deeper (envOfC qual scope s.heap.objs.size f cd)) (leaving (envOfC qual scope s.heap.objs.size f cd) e) (λv a=>CX A3 H s E e a) (λb a=>CX A3 H s E b a) s'
theorem z79{sc:Scope}(h:sc.names.lookup x=AA .cell):∃c,(cellsFrom n sc.names []).lookup x=AA c:=by
 have q:=PySem.W.cellsFrom_some sc.names n [] (.inl h);show QL.mp q
variable{scope:Scope}
theorem z66{qual:Str}{f:AD}{cd:AC}{t:AE}{E:XK}
  (S:FnScope N ps scope)(hd:A.handled=AB)(d:Env0 P w K mg base A A3 s H)(hl:vs.length=ps.length)(r:zS vs us)
  (x:InCallC s s.heap.objs.size (bindL (envOfC qual scope s.heap.objs.size f cd).kindOf (ps.zip us) λm=>AB) (cellsFrom (s.heap.objs.size+1) scope.names []) (bindC (envOfC qual scope s.heap.objs.size f cd).kindOf (ps.zip us) λm=>AB) t):
  Inv (z1e CX P w K mg base N qual scope f cd A A3 s H E) [] (start N vs) H t:=by
 have F:ps.length<=N.length:=by have:=QG List.length S.pre;rw[qi]at this;lia
 obtain⟨h1,tk,rfl,B⟩:=x.done;have l:∀b:AD,b∉(z1e CX P w K mg base N qual scope f cd A A3 s H E).ex:=λb z=>absurd (show b∈([]:List AD)from z) (by simp)
 show((d.mod,S.kind,rfl,rfl,wy _,λy z c h1 h2=>?_,λy hy=>?_,λy c m h=>?_,λm=>hd,Around.frames_deeper d.frames,.inr (rfl,rfl),λb z=>absurd z (l b),d.bs,d.bsz,λb m m=>l b,λb z=>absurd z (l b),d.funs,d.frf),
  rfl,d.bare,Un.kept B,(_,x.toInCall.ns,λi y v h1 h2 G=>?_),λy c h=>(_,x.cell y c h),d.hok.fresh (wy _),λy c h=>?_,λp j=>absurd (show p∈([]:List (AD×Obj))from j) (by simp),d.hok.kept B,?_)
 .exact name_of_addr x.apart (qZ h1) (qZ h2)
 .have hy:scope.names.lookup y=AA .cell\/scope.names.lookup y=AA .free:=hy;rcases hy with hy|hy
  .exact z79 hy
  .exact absurd rfl (S.nofree _ (qZ hy))
 .exact w1M (x.above y c (qZ h))
 .have hi:i<vs.length:=by
   unfold start at h2;by_cases hi:i<vs.length
   .exact hi
   .rw [QA (by simpa using hi)]at h2;rw[List.getElem?_replicate]at h2;split at h2<;>cases h2
  have ha:vs[i]? =AA v:=by
   unfold start at h2;rw[List.getElem?_append_left (by simpa using hi),wK]at h2;cases e:vs[i]? with
   | none=>rw[e]at h2;cases h2
   | some a=>rw[e]at h2;cases h2;rfl
  obtain⟨u,o,D⟩:=r.get ha;have j:ps[i]? =AA y:=by
   rw[<-S.pre,List.getElem?_take_of_lt (by lia)];show h1
  have C:ps.Nodup:=by rw[<-S.pre];show S.nd.sublist (List.take_sublist _ _)
  show(u,D,?_);rcases S.par y (qB j)with k|k
  .exact .inl (k,z5K C j o k)
  .obtain⟨c,e⟩:=z79 (n:=s.heap.objs.size+1) k;show .inr (.inl k,c,e,?_);have q:=x.cell y c e;rw[z5X C j o (by change scope.names.lookup y≠_;rw[k];decide)]at q;show q
 .exact d.hok.fresh (w1M (x.above y c (qZ h)))
 .unfold start
  change _=N.length
  rw[wg,wa,w0E]
  lia
theorem z93{k:Nat}{f:AD}{name qual:Str}{params:Arguments}{j kV aY pm ag ct oc:AC}{an od:Option AD}
  {bW:Array (Option AC)}   (G:K.lookup f=AA (oc,od,.func (PySem.W.fnOf name qual params body scope j kV aY pm an ag ct),bW)) (z:PySem.W.codeIn K ag qual=true) (S:FnScope N ps scope)
  (len:∀vs H Q E,sp vs H Q E->vs.length=ps.length)
  (L:∀(A:Aj)(A3:List Env)(s:AE)(H:Hp)(vs:List V)(Q:VK)(E:XK),Room k (A.deeper (envOfC qual scope s.heap.objs.size f ag))->sp vs H Q E->
   ∃t,PSs (z1e CX P w K mg base N qual scope f ag A A3 s H E) body t/\t {nx:=λm H'=>Q .non H',rt:=Q} (start N vs) H):
  FnOk P w K mg base CX (k+1) f (PySem.W.fnOf name qual params body scope j kV aY pm an ag ct) ps sp:=by
 show(len,λA A3 s H args us vs Q E c a p r l=>?_);have hl:=len _ _ _ _ l;have h:K.In s.heap:=a.mod.kin.keeps λb o e=>(a.bs b o e).1
 have C:s.heap.NoLimit:=a.mod.nolimit.keeps λb o e=>(a.bs b o e).1
 have B:∀y∈ps.zip us,scope.names.lookup y.1=AA .local\/(scope.names.lookup y.1=AA .cell/\((cellsFrom (s.heap.objs.size+1) scope.names []).lookup y.1).isSome=true):=λ⟨n,v⟩ D=>by
  rcases S.par n (List.of_mem_zip D).1 with q|q
  .exact .inl q
  .exact .inr (q,PySem.W.cellsFrom_some _ _ _ (.inl q))
 show codeAny_call_function c.depth (h _ _ G) rfl S.co S.gen rfl (PySem.W.codeRec_of h z) (p _ _ _ _ ?_);show wpAny_newFunctionEnv_cells S.kind B λenv he i x=>?_
 subst he;show(C.keeps x.toInCall.keep,codeAny_func ?_);obtain⟨t,ht,F⟩:=(L A A3 s H vs Q E (c.deeper _) l);have I:Inv (z1e CX P w K mg base N qual scope f ag A A3 s H E) [] (start N vs) H i:=z66 S c.hd a hl r x;show qQ (ht [] i (start N vs) H _ I F) (λfl s' hs=>?_) λe s' hs=>hs
 have fin:∀{σ':St} {H':Hp} {v:V} {u:AC},Inv (z1e CX P w K mg base N qual scope f ag A A3 s H E) [] σ' H' s'->RelV v u->Q v H'->CE A3 P w H s Q u s':=
  λ{σ' H' v u} J d q=>(v,H',J.os,J.bare,J.base,J.hok,d,q)
 cases fl with
 | ret u=>
  obtain⟨v,σ',H',J,d,q⟩:=(hs);show fin J d q
 | next=>
  obtain⟨σ',H',J,q⟩:=(hs);show fin (v:=V.non) (u:=Value.none) J rfl q
 | brk=>
  obtain⟨_,_,_,q⟩:=(hs);show False.elim q
 | cont=>
  obtain⟨_,_,_,q⟩:=(hs);show False.elim q
section
variable{id T:String}{r:List V->Hp->VK->Prop}
def tCB(r:List V->Hp->VK->Prop)(t:TA):TE:=λσ H Q=>t σ H λvs H1=>r vs H1 Q
theorem zM(hc:kr X (.builtin id) r)(c:Gl X x)(hm:X.mg x=AB)(f:bootBuiltins x=AA (.builtin id))(ha:PA X (e::es) t)(hn: ~~~(x≠"__name__"))(b:x∣0)
  (he:e∣es)(d:((backTo pos (AJ es X.env)).any (·.1)=false)⁻¹):PE X (.Call (.Name x p) (e::es) [] pos) (tCB r t):=by
 intro A2 s σ H Q I h;show Qj (z19 I c hm f ?_ hn b);show PyProof.Rows.callWith_builtin1 (thn (ha pos A2 s σ H _ I h) λus j ⟨vs,H1,a,r1,i⟩=>hc A2 j σ H1 vs us Q a r1 i) he d
theorem jq(hc:kr X (.type T) r)(c:Gl X x)(hm:X.mg x=AB)(f:bootBuiltins x=AA (.type T))(ha:PA X (e::es) t)(hn: ~~~(x≠"__name__"))(b:x∣0)
  (he:e∣es)(d:((backTo pos (AJ es X.env)).any (·.1)=false)⁻¹):PE X (.Call (.Name x p) (e::es) [] pos) (tCB r t):=by
 intro A2 s σ H Q I h;show Qj (z19 I c hm f ?_ hn b);show Qe (thn (ha pos A2 s σ H _ I h) λus j ⟨vs,H1,a,r1,i⟩=>hc A2 j σ H1 vs us Q a r1 i) he d
end
end Lake
namespace HT
open PySem PyProof.Rows
section
open PySem.SeqAt
open PySem.AutoSeq1 (wpAny_loadPart')
open PySem.MeetsSeq PySem.MeetsSeq2 PySem.MeetsSeq3
end
variable{Q:AC->AE->Prop}
section
variable{prog:AM}{w:Av}{A:Aj}{E:AC->AE->Prop}{s:AE}
theorem cat_tup{t b:AD}{vs ws:List AC}(ht:IsTup s.heap t vs.toArray)(p:IsTup s.heap b ws.toArray)(j:vs≠ [])
  (h1:ws= []->Q (.ref t) s)(h2:ws≠ []->Q (.ref s.heap.objs.size) {s with heap:=s.heap.push {cls:= .type "tuple",data:= .seq (vs++ws).toArray}})
  (hsz:vs.length+ws.length<=AI):AT (AV prog w) A (binaryOp .Add (.ref t) (.ref b)) Q E s:=by
 obtain⟨⟨cls,dd,data,i⟩,a,hc,n,hd⟩:=id ht;obtain⟨⟨q,h,data2,f⟩,c,l,d,o⟩:=id p;simp only at hc hd l o;subst hc hd l o;have e:vs.toArray++ws.toArray=(vs++ws).toArray:=by simp
 by_cases hw:ws= []
 .exact concat_meets (_,a,rfl) (_,c,rfl) noFill_tuple_add seq_tuple_add PySem.F.slot_tuple_add PySem.F.entry_tuple_add (PySem.F.args_tuple_add_2 _ _)
   (tuple_addW1 t b vs.toArray ws.toArray n d dd h i f (by simpa using j) (by simp[hw])) (a,c,h1 hw)
 .refine concat_meets (_,a,rfl) (_,c,rfl) noFill_tuple_add seq_tuple_add PySem.F.slot_tuple_add PySem.F.entry_tuple_add (PySem.F.args_tuple_add_2 _ _)
   (tuple_addW2 t b vs.toArray ws.toArray n d dd h i f (by simpa using j) (by simpa using hw) (by rw[wB,wB];show hsz)) (a,c,?_)
  rw[e];show h2 hw
noncomputable def sIx(n d:Nat):Option Int->Nat
 | none=>d
 | some v=>if v<0 then(v+(n:Int)).toNat else min v.toNat n
theorem sIx_none(n d:Nat):sIx n d AB=d:=rfl
theorem zfi(n d:Nat)(hd:d<=n)(o:Option Int):sIx n d o<=n:=by
 cases o with
 | none=>show hd
 | some v=>
  change(if v<0 then(v+(n:Int)).toNat else min v.toNat n)<=n
  by_cases hv:v<0
  .rw [qc hv];lia
  .rw [wW hv];show Nat.min_le_right _ _
theorem z9u(v:Int)(n d:Nat):(if v<0 then max (v+(n:Int)) 0 else min v (n:Int))=((sIx n d (AA v):Nat):Int):=by
 change _=(((if v<0 then(v+(n:Int)).toNat else min v.toNat n):Nat):Int)
 by_cases hv:v<0
 .rw[qc hv,qc hv,Int.toNat_eq_max]
 .rw[wW hv,wW hv,Lean.Omega.Int.ofNat_min,Int.toNat_of_nonneg (Int.not_lt.1 hv)]
theorem zyU_(v:Int)(n:Nat):max 0 (min (if v<0 then v+n else v) (n:Int))=(if v<0 then max (v+(n:Int)) 0 else min v (n:Int)):=by
 by_cases hv:v<0
 .rw[qc hv,qc hv,Int.min_eq_left (Int.le_trans (Int.add_le_add_right (Int.le_of_lt hv) n) (Int.le_of_eq (Int.zero_add _))),Int.max_comm]
 .rw[wW hv,wW hv,Int.max_eq_right (Int.le_min.2 (Int.not_lt.1 hv,Int.natCast_nonneg n))]
theorem z8w(lo hi:Option Int)(n:Nat):Builtin.Slice.sliceAdjust lo hi 1 (n:Int)=(((sIx n 0 lo:Nat):Int),((sIx n n hi:Nat):Int)):=by
 have h1:¬((1:Int)<0):=by lia
 unfold Builtin.Slice.sliceAdjust;simp only[h1,w0A];show Prod.ext ?_ ?_
 .cases lo with
  | none=>rfl
  | some v=>show z9u v n 0
 .cases hi with
  | none=>rfl
  | some v=>show z9u v n n
theorem z8H(i j:Nat):Builtin.Slice.slicePlaces (i:Int) (j:Int) 1=j-i:=by
 unfold Builtin.Slice.slicePlaces;have h1:(1:Int) > 0:=by lia
 simp only[h1,w1q,Int.ediv_one];split<;>lia
theorem z4K{v:AC}{o:Option Int}{Q:Option Int->AE->Prop}(p:IsPart v o)(h:Q o s):AT (AV prog w) A (Builtin.Slice.slicePartIndex v) Q E s:=by
 cases p with
 | none=>show slicePart_none h
 | int i t=>show slicePart_int h
variable{lo hi:Option Int}
theorem sliceApplied_gen{d:AD}{c b:AC}{n:Nat}{Q:Int×Int×Nat->AE->Prop}(hs:s.heap.IsSliceOf d c b .none)(pl:IsPart c lo)(e:IsPart b hi)
  (h:Q (((sIx n 0 lo:Nat):Int),1,sIx n n hi-sIx n 0 lo) s):AT (AV prog w) A (Builtin.Slice.sliceApplied (.ref d) (pure (n:Int))) Q E s:=by
 obtain⟨os,a,f,hds⟩:=id hs;unfold Builtin.Slice.sliceApplied Builtin.Slice.sliceFields;show wu (wu (w21 a hds (x:=c) rfl (wu (w21 a hds (x:=b) rfl (wu (w21 a hds (x:= .none) rfl (wN ?_)))))));show wu (slicePart_none ?_)
 change AT _ _ (if((1:Int) == 0)=true then _ else _) _ _ s
 rw[wW (by decide)];show wu (z4K pl (wu (z4K e (wu (wN ?_)))))
 change AT _ _ (match Builtin.Slice.sliceAdjust lo hi 1 (n:Int)with|(lo,hi)=>pure (Prod.mk lo (Prod.mk (1:Int) (Builtin.Slice.slicePlaces lo hi 1)))) _ _ s
 rw[z8w lo hi n]
 change AT _ _ (pure (Prod.mk (((sIx n 0 lo:Nat):Int)) (Prod.mk (1:Int) (Builtin.Slice.slicePlaces ((sIx n 0 lo:Nat):Int) ((sIx n n hi:Nat):Int) 1)))) _ _ s
 rw[z8H];show wN h
theorem zct(xs:Array AC)(i k:Nat):((List.range k).filterMap λ(m:Nat)=>xs[((i:Int)+(m:Int)*1).toNat]?).toArray=((xs.toList.drop i).take k).toArray:=by
 have e:(λ(m:Nat)=>xs[((i:Int)+(m:Int)*1).toNat]?)=λm=>xs[i+m]? :=by
  funext m
  have:((i:Int)+(m:Int)*1).toNat=i+m:=by lia
  rw[this]
 rw[e];have:=pick_run xs i k;rw[List.filterMap_map]at this;have a:((λx=>xs[x]?) ∘ λx=>i+x)=λm=>xs[i+m]? :=rfl
 rw[a]at this;rw[this]
theorem getItem_tuple_cut{t b:AD}{items:Array AC}{d c:AC}(ht:IsTup s.heap t items)(hs:s.heap.IsSliceOf b d c .none)(pl:IsPart d lo)(i:IsPart c hi)
  (j:¬(sIx items.size 0 lo=0/\sIx items.size items.size hi=items.size))
  (h:Q (.ref s.heap.objs.size) {s with heap:=s.heap.push {cls:= .type "tuple",data:= .seq ((items.toList.drop (sIx items.size 0 lo)).take (sIx items.size items.size hi-sIx items.size 0 lo)).toArray}})
  (hsz:items.size<=AI):AT (AV prog w) A (getItem (.ref t) (.ref b)) Q E s:=by
 have a:sizeOk (.seq ((items.toList.drop (sIx items.size 0 lo)).take (sIx items.size items.size hi-sIx items.size 0 lo)).toArray):=by
  change((items.toList.drop (sIx items.size 0 lo)).take (sIx items.size items.size hi-sIx items.size 0 lo)).toArray.size<=AI
  rw[wB,qi,w1d,QJ];show wG (Nat.min_le_right _ _) (wG (Nat.sub_le _ _) hsz)
 have o:sIx items.size items.size hi<=items.size:=zfi _ _ (wy _) hi;obtain⟨os,e,n,hds⟩:=id hs;have l:s.TypeIs (.ref b) "slice":=(os,e,n);unfold getItem
 try with_reducible show Qo ?_
 first|show wu (wN ?_)|skip
 show wu (wpAny_sequenceKey ht.typeIs (by decide) ?_);show wu (wpAny_callSpecial?_slot (name:=Str.ofString "__getitem__") ht.typeIs Qf
  (wpAny_call_entry Qf ht.typeIs entry_tuple_getitem ?_ (args_tuple_getitem _ _)))
 change AT _ _ (Builtin.Tuple.tupleItemsOf (.ref t) >>= _) _ _ s
 show wu (tupleItemsOf_ ht ?_);show wu (wpAny_typeOf l ?_);rw[qc (by decide)];show wu (sliceApplied_gen hs pl i ?_);have f:¬((((sIx items.size 0 lo:Nat):Int) == 0&&(1:Int) == 1&&(sIx items.size items.size hi-sIx items.size 0 lo) == items.size)=true):=by
  intro q;rw[qX,qX]at q;have r:((sIx items.size 0 lo:Nat):Int)=0:=eq_of_beq q.1.1;have p:sIx items.size items.size hi-sIx items.size 0 lo=items.size:=eq_of_beq q.2;show j (by lia,by lia)
 change AT _ _ (if(((sIx items.size 0 lo:Nat):Int) == 0&&(1:Int) == 1&&(sIx items.size items.size hi-sIx items.size 0 lo) == items.size)=true then _ else _) _ _ s
 rw[wW f,zct]
 first
  | show wu (m:=Builtin.Tuple.tupleExact _) (w0o (wN (_,rfl,wN h)) a)
  | show wu (m:=Builtin.Tuple.tupleExact _) (w0o (wu (wN (wN (_,rfl,wN h)))) a)
  | show wu (wu (m:=Builtin.Tuple.tupleExact _) (w0o (wN (wN (_,rfl,wN h))) a))
  | show wu (wu (m:=Builtin.Tuple.tupleExact _) (w0o (wN (_,rfl,wN h)) a))
end
end HT
namespace Lake
open PySem PySem.Spec PyProof.Rows
abbrev TO:=St->Hp->(Option Int->Hp->Prop)->Prop
def PO(X:Cx)(e:Option Expr)(t:TO):Prop:=
 ∀(A2:List (AD×Obj))(s:AE)(σ:St)(H:Hp)(Q:Option Int->Hp->Prop),Inv X A2 σ H s->t σ H Q->
  AT (AV X.prog X.w) X.A (evalPart e X.env) (λu s'=>∃o H',Inv X A2 σ H' s'/\IsPart u o/\Q o H') X.xe s
def zdw:TO:=λv H Q=>Q AB H
def zge(t:TE):TO:=λσ H Q=>t σ H λx H1=>∃i,x= .int i/\Q (AA i) H1
theorem intsAre_of{ns:List Int}:∀{us:List AC},zS (ns.map V.int) us->IntsAre us ns:=by
 induction ns with
 | nil=>intro us r;rw[w1Q]at r;cases r;show .nil
 | cons n ns a=>
  intro us r;rw[qK]at r;cases r with
  | cons r1 r2=>
   obtain⟨t,e⟩:=r1;subst e;show .cons n t (a r2)
variable{X:Cx}{e:Expr}{pos:Pos}{us:List AC}
section
variable{te:TE}{lo hi:Option Expr}{tl th:TO}{p2:Pos}
theorem yf:PO X AB zdw:=by
 intro A2 s σ H Q I h;rw[evalPart_none];show wN (AB,H,I,.none,h)
theorem jI(h:PE X e te):PO X (AA e) (zge te):=by
 intro A2 s σ H Q I c;rw[evalPart_some];show thn (h A2 s σ H _ I c) ?_;rintro u d ⟨x,H1,b,r1,a⟩;obtain⟨i,rfl,q⟩:=a;obtain⟨t,rfl⟩:=r1;show(AA i,H1,b,.int i t,q)
def SlR(X:Cx)(r:V->Option Int->Option Int->Hp->VK->Prop):Prop:=
 ∀(A2:List (AD×Obj))(s:AE)(σ:St)(H:Hp)(x:V)(v b a:AC)(lo hi:Option Int)(c:AD)(Q:VK),Inv X A2 σ H s->RelV x v->s.heap.IsSliceOf c b a .none->IsPart b lo->IsPart a hi->r x lo hi H Q->
  ∃T id,typeLookup (.type T) "__getitem__"=pure (AA (.builtin id))/\s.TypeIs v T/\wpAny (AV X.prog X.w) X.A (getItem v (.ref c)) (EP X A2 σ Q) X.xe s
variable{r:V->Option Int->Option Int->Hp->VK->Prop}
theorem SlR.or{r':V->Option Int->Option Int->Hp->VK->Prop}(h:SlR X r)(h':SlR X r'):SlR X (λx lo hi H Q=>r x lo hi H Q\/r' x lo hi H Q):=by
 intro A2 s σ H x v e d lo hi c Q I a hs pl b q;rcases q with q|q
 .exact h A2 s σ H x v e d lo hi c Q I a hs pl b q
 .exact h' A2 s σ H x v e d lo hi c Q I a hs pl b q
def tSl(r:V->Option Int->Option Int->Hp->VK->Prop)(te:TE)(tl th:TO):TE:=λσ H Q=>te σ H λx H1=>tl σ H1 λl H2=>th σ H2 λu a=>r x l u a Q
theorem jy(i:SlR X r)(he:PE X e te)(hl:PO X lo tl)(o:PO X hi th):PE X (.Subscript e (.Slice lo hi AB p2) pos) (tSl r te tl th):=by
 intro A2 s σ H Q I h;show Subscript_ (thn (he A2 s σ H _ I h) ?_);rintro v G ⟨x,H1,j,r1,C⟩;show wpAny_Slice (thn (hl A2 G σ H1 _ j C) ?_);rintro d F ⟨l,H2,t,pl,B⟩;show thn (o A2 F σ H2 _ t B) ?_;rintro c a ⟨u,f,D,y,E⟩;rw[evalPart_none];show wN ?_;have z:Inv X A2 σ f {a with heap:=a.heap.push {cls:= .type "slice",data:= .fields #[d,c,.none]}}:=D.kept (t':=a.toks) λb J q=>wo _ q
 obtain⟨T,id,n,ht,p⟩:=i A2 {a with heap:=a.heap.push {cls:= .type "slice",data:= .fields #[d,c,.none]}} σ f x v d c l u a.heap.objs.size Q z r1 (Heap.IsSliceOf.new ..) pl y E
 change AT (AV X.prog X.w) X.A (subscriptTail e (.Slice lo hi AB p2) v (.ref a.heap.objs.size)) (EP X A2 σ Q) X.xe {a with heap:=a.heap.push {cls:= .type "slice",data:= .fields #[d,c,.none]}}
 show tail_any (ops:= [.ref a.heap.objs.size,v]) ht n p (by with_unfolding_all rfl)
noncomputable def z1Q(xs:List V)(lo hi:Option Int):List V:=(xs.drop (HT.sIx xs.length 0 lo)).take (HT.sIx xs.length xs.length hi-HT.sIx xs.length 0 lo)
theorem z3L(xs:List V)(lo hi:Option Int):(z1Q xs lo hi).length<=xs.length:=wG (List.length_take_le' _ _) (by rw[w1d];show Nat.sub_le _ _)
def zgg(K:W.Frag):V->Option Int->Option Int->Hp->VK->Prop:=λx lo hi H Q=>∃a xs,x= .ref a/\SqT K H a xs/\
 ¬(HT.sIx xs.length 0 lo=0/\HT.sIx xs.length xs.length hi=xs.length)/\∀p,H p=AB->Q (.ref p) (upd H p (.tup (z1Q xs lo hi)))
theorem z4R:SlR X (zgg X.K):=by
 intro A2 s σ H x v n l lo hi j Q I c hs pl d h;obtain⟨a,xs,rfl,f,e,q⟩:=h;cases c;obtain⟨aa,r,ht,hz⟩:=I.tuple f;have hlen:aa.toArray.size=xs.length:=by rw[wB];show r.length.symm
 show("tuple",_,Qf.lookup,ht.typeIs,?_);show HT.getItem_tuple_cut ht hs pl d (by rw[hlen];show e) ?_ (by rw[hlen];show hz);rw[hlen];show(.ref s.heap.objs.size,_,I.laid (t':=s.toks) (o:= .tup (z1Q xs lo hi)) (λb i q=>wo _ q) (wy _) ?_,rfl,q _ (I.hok.fresh (wy _)));show(wG (z3L xs lo hi) hz,_,(r.drop (HT.sIx xs.length 0 lo)).take (HT.sIx xs.length xs.length hi-HT.sIx xs.length 0 lo),IsTup.new _ _)
def zgq(K:W.Frag):R2:=λx y H Q=>∃a b xs ys,x= .ref a/\y= .ref b/\SqT K H a xs/\SqT K H b ys/\xs≠ []/\xs.length+ys.length<=AI/\
 (ys= []->Q (.ref a) H)/\(ys≠ []->∀p,H p=AB->Q (.ref p) (upd H p (.tup (xs++ys))))
theorem zS.nil_iff{xs:List V}(r:zS xs us):us= []↔xs= []:=by
 cases r with
 | nil=>simp
 | cons _ _=>simp
theorem z9m:OpR X (binaryOp .Add) (zgq X.K):=by
 intro A2 s σ H x y v u Q I d e h;obtain⟨a,b,xs,ys,rfl,rfl,ha,c,j,hz,l,f⟩:=h;cases d;cases e;obtain⟨aa,r1,i,_⟩:=I.tuple ha;obtain⟨p,r2,p2,_⟩:=I.tuple c;show HT.cat_tup i p2 (λz=>j (r1.nil_iff.mp z)) (λz=>(.ref a,H,I,rfl,l (r2.nil_iff.mp z))) (λz=>?_) (by rw[<-r1.length,<-r2.length];show hz);show(.ref s.heap.objs.size,_,I.laid (t':=s.toks) (o:= .tup (xs++ys)) (λb n q=>wo _ q) (wy _) ?_,rfl,f (λw=>z (r2.nil_iff.mpr w)) _ (I.hok.fresh (wy _)));show(by rw[wg];show hz,_,r1.append r2,IsTup.new _ _)
end
noncomputable def ixN(n:Nat)(i:Int):Option Nat:=if 0<=i then(if i<n then AA i.toNat else AB)else if -(n:Int)<=i then AA (i+n).toNat else AB
variable{α:Type}
noncomputable def atI(xs:List α)(i:Int):Option α:=(ixN xs.length i).bind λj=>xs[j]?
variable{n j:Nat}{i:Int}
theorem z9D(h:ixN n i=AA j):seqIndex? i n=AA j/\j<n/\-(n:Int)<=i/\i<n:=by
 unfold ixN at h;by_cases h0:0<=i
 .rw [qc h0]at h;by_cases h1:i<n
  .rw [qc h1]at h;have e:i.toNat=j:=Option.some.inj h;show(by rw[seqIndex_of h0 h1,e],by lia,by lia,h1)
  .rw [wW h1]at h;cases h
 .rw [wW h0]at h;by_cases h1: -(n:Int)<=i
  .rw [qc h1]at h;have e:(i+n).toNat=j:=Option.some.inj h;show(by rw[seqIndex_neg (by lia) h1,e],by lia,h1,by lia)
  .rw [wW h1]at h;cases h
variable{xs:List α}
theorem z6Z{v:α}(h:atI xs i=AA v):∃j,seqIndex? i xs.length=AA j/\xs[j]? =AA v/\j<xs.length/\-(xs.length:Int)<=i/\i<xs.length:=by
 unfold atI at h;cases e:ixN xs.length i with
 | none=>rw[e]at h;cases h
 | some j=>
  rw[e]at h;obtain⟨h1,h2,b,a⟩:=z9D e;show(j,h1,h,h2,b,a)
theorem zZ{v:α}(h:xs[j]? =AA v):atI xs (j:Int)=AA v:=by
 have a:j<xs.length:=(we.mp h).1;have e:ixN xs.length (j:Int)=AA j:=by
  unfold ixN;rw[qc (by lia),qc (by lia)];simp
 unfold atI;rw[e];show h
theorem zd0(xs:List α)(v:α):atI (xs++[v]) (-1)=AA v:=by
 have hl:(xs++[v]).length=xs.length+1:=by simp
 have e:ixN (xs++[v]).length (-1)=AA xs.length:=by
  unfold ixN;rw[hl,wW (by decide),qc (by lia)]
  congr 1
  lia
 unfold atI;rw[e]
 change(xs++[v])[xs.length]? =AA v
 simp
def z6Q(b:Expr):Prop:=∀o i,subscripted b false o i=operate [o,i] (getItem o i)
def IxR(X:Cx)(r:R2):Prop:=
 ∀(value slice:Expr)(A2:List (AD×Obj))(s:AE)(σ:St)(H:Hp)(x y:V)(v u:AC)(Q:VK),Inv X A2 σ H s->RelV x v->RelV y u->r x y H Q->
  subscripted slice false v u=operate [v,u] (getItem v u)->AT (AV X.prog X.w) X.A (subscriptTail value slice v u) (EP X A2 σ Q) X.xe s
def MtR(X:Cx)(id:String)(r:V->List V->Hp->VK->Prop):Prop:=
 ∀(A2:List (AD×Obj))(s:AE)(σ:St)(H:Hp)(x:V)(xs:List V)(v:AC)(us:List AC)(Q:VK),Inv X A2 σ H s->RelV x v->zS xs us->r x xs H Q->
  AT (AV X.prog X.w) X.A (call (.builtin id) (v::us)) (EP X A2 σ Q) X.xe s
variable{A2:List (AD×Obj)}{H:Hp}{s:AE}{aa:List AC}{A:Aj}{y x:V}{u:AC}{T:String}
section
variable{a b:Expr}{ta tb:TE}
theorem yw{r:R2}(d:IxR X r)(ha:PE X a ta)(c:PE X b tb)(hs:z6Q b):PE X (.Subscript a b pos) (tOp r ta tb):=by
 intro A2 s σ H Q I h;show Subscript_ (zeI ha c I h λv u j x y H2 f e i q=>d a b A2 j σ H2 x y v u Q f e i q (hs _ _))
def zew(K:W.Frag):R2:=λx y H Q=>∃p xs i v,x= .ref p/\y= .int i/\SqL K H p xs/\atI xs i=AA v/\Q v H
def zey(K:W.Frag):R2:=λx y H Q=>∃p xs i v,x= .ref p/\y= .int i/\SqT K H p xs/\atI xs i=AA v/\Q v H
def zgC:R2:=λx y H Q=>∃z i c,x= .str z/\y= .int i/\z.length<=AI/\atI z.cps.toList i=AA c/\Q (.str ⟨#[c]⟩) H
theorem z9H:IxR X (zew X.K):=by
 intro value slice A2 s σ H x y v u Q I d l h hs;obtain⟨p,xs,i,z,rfl,rfl,n,he,q⟩:=(h);cases d;obtain⟨t,rfl⟩:=l;obtain⟨aa,r,pl,hz⟩:=(I.list n);obtain⟨j,h1,h2,o,f,e⟩:=(z6Z he);obtain⟨w,b,c⟩:=(r.get h2);have hl:=r.length;have hn:=z2G;have fin:EP X A2 σ Q w s:=(z,H,I,c,q);by_cases h0:0<=i
 .have a:i.toNat=j:=by
   rw[seqIndex_of h0 e]at h1;show Option.some.inj h1
  show item_listR pl.isList h0 (by lia) (by rw[a];simpa using b) fin hs
 .have a:(i+(aa.toArray.size:Int)).toNat=j:=by
   rw[seqIndex_neg (by lia) f]at h1;rw[wB,<-hl];show Option.some.inj h1
  show subscriptTail_builtinR (x:=w) pl.isList.typeIs slot_list_getitem.lookup
   (wpAny_getItem_list_neg (Q:=λr s'=>r=w/\EP X A2 σ Q r s') pl.isList (by lia) (by rw[wB]<;>lia) (by lia) (by rw[a];simpa using b) (rfl,fin)) hs
theorem zcZ:IxR X (zey X.K):=by
 intro value slice A2 s σ H x y v u Q I b d h hs;obtain⟨p,xs,i,z,rfl,rfl,e,he,q⟩:=h;cases b;obtain⟨t,rfl⟩:=d;obtain⟨aa,r,pl,hz⟩:=I.tuple e;obtain⟨j,h1,h2,n,l,f⟩:=z6Z he;obtain⟨w,c,a⟩:=r.get h2;have hl:=r.length;have hn:=z2G;have fin:EP X A2 σ Q w s:=(z,H,I,a,q);show subscriptTail_builtinR (x:=w) pl.typeIs slot_tuple_getitem.lookup
  (getItem_tuple (j:=j) (Q:=λr s'=>r=w/\EP X A2 σ Q r s') pl (by lia) (by lia) (by rw[wB,<-hl];show h1) (by simpa using c) (rfl,fin)) hs
theorem zeT:IxR X zgC:=by
 intro value slice A2 s σ H x y v u Q I a f h hs;obtain⟨z,i,c,rfl,rfl,hz,he,q⟩:=h;obtain⟨t,rfl⟩:=a;obtain⟨t',rfl⟩:=f;obtain⟨j,h1,h2,n,e,b⟩:=z6Z he;have hl:z.cps.toList.length=z.length:=by simp[Str.length]
 rw[hl]at h1 e b;have hn:=z2G;show tail_any (typeIs_str s z t) slot_str_getitem.lookup (getItem_str (c:=c) (by
  have d:decide (i < -(2 ^ 63:Int))=false:=wL (by lia);have l:decide (i≥2 ^ 63)=false:=wL (by lia);rw[d,l,Bool.or_false]) (by rw[h1];simpa using h2) (.str ⟨#[c]⟩,H,I.tok _,(_,rfl),q)) hs
theorem z8v(aa:List AC)(n j:Nat)(u:AC):Obj.mapSeq (·.setIfInBounds j u) {cls:= .type "list",data:= .seq aa.toArray n}={cls:= .type "list",data:= .seq (aa.set j u).toArray n}:=by
 simp[Obj.mapSeq]
theorem Inv.lst{A2:List (AD×Obj)}{σ:St}{H:Hp}{s:AE}{p:AD}{xs:List V}(I:Inv X A2 σ H s)(h:H p=AA (.lst xs)):
  ∃(aa:List AC)(n:Nat),zS xs aa/\s.heap.get? p=AA {cls:= .type "list",data:= .seq aa.toArray n}/\xs.length<=sizeLine:=by
 obtain⟨z,aa,n,r,e⟩:=I.hok p _ h;show(aa,n,r,e,z)
theorem Inv.lstUpd{σ:St}{p:AD}{xs ys:List V}{its':List AC}{a:Nat}{f:Obj->Obj}(I:Inv X A2 σ H s)(h:H p=AA (.lst xs))
  (i:s.heap.get? p=AA {cls:= .type "list",data:= .seq aa.toArray n})(c:f {cls:= .type "list",data:= .seq aa.toArray n}={cls:= .type "list",data:= .seq its'.toArray a})(r:zS ys its')(hz:ys.length<=AI)(t:Nat):
  Inv X A2 σ (upd H p (.lst ys)) {s with heap:=s.heap.update p f,toks:=t}:=by
 have e:(s.heap.update p f).get? p=AA {cls:= .type "list",data:= .seq its'.toArray a}:=by
  rw[w06 f i (by rw[c]<;>rfl),c]
 show I.write (x:=p) (e:=p) (by rw[h];trivial) (.inl rfl) (λb u d q=>(qS _ _ (w0K d)).trans q) (_,e) ?_;show(hz,its',a,r,e)
def zg7:V->V->V->Hp->(Hp->Prop)->Prop:=λo i v H Q=>∃p xs k j,o= .ref p/\i= .int k/\H p=AA (.lst xs)/\ixN xs.length k=AA j/\Q (upd H p (.lst (xs.set j v)))
theorem set_list:zg2 X zg7:=by
 intro A2 s σ H o i v A z u Q I w x y h;obtain⟨p,xs,k,j,rfl,rfl,e,l,q⟩:=(h);cases w;obtain⟨t,rfl⟩:=x;obtain⟨aa,n,r,a,hz⟩:=(I.lst e);obtain⟨h1,h2,f,d⟩:=(z9D l);have hl:=r.length;have hn:=z2G;have c:Inv X A2 σ (upd H p (.lst (xs.set j v))) {s with heap:=s.heap.update p (Obj.mapSeq (·.setIfInBounds j u))}:=
  I.lstUpd e a (z8v aa n j u) (r.set y j) (by rw[List.length_set];show hz) s.toks
 by_cases h0:0<=k
 .have b:k.toNat=j:=by
   rw[seqIndex_of h0 d]at h1;show Option.some.inj h1
  show PySem.W.ki_setAt a h0 (by lia) (by rw[wB,<-hl];show d) (by rw[b];show(_,c,q))
 .have b:(k+(aa.toArray.size:Int)).toNat=j:=by
   rw[seqIndex_neg (by lia) f]at h1;rw[wB,<-hl];show Option.some.inj h1
  show PySem.W.ki_setBack a (by lia) (by rw[wB,<-hl];show f) (by lia) (by rw[b];show(_,c,q))
theorem z6r(lo hi:Option Int)(n:Nat):(sliceBounds lo hi AB n).1=((HT.sIx n 0 lo:Nat):Int)/\(sliceBounds lo hi AB n).2.1=((HT.sIx n n hi:Nat):Int)/\(sliceBounds lo hi AB n).2.2=1:=by
 show(?_,?_,rfl)
 .cases lo with
  | none=>rfl
  | some i=>show(HT.zyU_ i n).trans (HT.z9u i n 0)
 .cases hi with
  | none=>rfl
  | some i=>show(HT.zyU_ i n).trans (HT.z9u i n n)
theorem z5g(aa:List AC)(lo hi:Option Int):slicePick aa.toArray lo hi AB=((aa.drop (HT.sIx aa.length 0 lo)).take (HT.sIx aa.length aa.length hi-HT.sIx aa.length 0 lo)).toArray:=by
 obtain⟨h1,h2,a⟩:=z6r lo hi aa.toArray.size;unfold slicePick;rw[h1,h2,a];simp only[sliceRange_one,pick_run,wB]<;>rfl
def zgJ(K:W.Frag):V->Option Int->Option Int->Hp->VK->Prop:=λx lo hi H Q=>∃a xs,x= .ref a/\SqL K H a xs/\∀p,H p=AB->Q (.ref p) (upd H p (.lst (z1Q xs lo hi)))
theorem yN:SlR X (zgJ X.K):=by
 intro A2 s σ H x v l j lo hi i Q I c hs pl d h;obtain⟨a,xs,rfl,e,q⟩:=h;cases c;obtain⟨aa,r,ht,hz⟩:=I.list e;have hlen:=r.length;show("list",_,slot_list_getitem.lookup,ht.isList.typeIs,?_);show wpAny_getItem_list_slice ht.isList hs pl d .none (by simp) ?_ (by rw[wB]<;>lia);rw[z5g,<-hlen];show(.ref s.heap.objs.size,_,I.laid (t':=s.toks) (o:= .lst (z1Q xs lo hi)) (λb f q=>wo _ q) (wy _) ?_,rfl,q _ (I.hok.fresh (wy _)));show(wG (z3L xs lo hi) hz,_,0,(r.drop (HT.sIx xs.length 0 lo)).take (HT.sIx xs.length xs.length hi-HT.sIx xs.length 0 lo),wX _ rfl)
noncomputable def yD:V->Bool
 | .non=>true
 | .bl _=>true
 | .int _=>true
 | .str _=>true
 | _=>false
noncomputable def eqV:V->V->Bool
 | .non,.non=>true
 | .bl a,.bl b=>a == b
 | .bl a,.int b=>(if a then 1 else 0) == b
 | .int a,.bl b=>a == (if b then 1 else 0)
 | .int a,.int b=>a == b
 | .str a,.str b=>a == b
 | _,_=>false
theorem z6h{v:AC}(d:RelV y u)(c:RelV x v)(f:yD y=true)(e:yD x=true):SeqAt.EqAt A s u v (eqV y x):=by
 cases y with
 | non=>
  cases d;cases x with
  | non=>cases c;show SeqAt.EqAt.same _
  | bl b=>cases c;show SeqAt.EqAt.none_bool b
  | int b=>obtain⟨t,rfl⟩:=c;show SeqAt.EqAt.none_int b t
  | str b=>obtain⟨t,rfl⟩:=c;show SeqAt.EqAt.none_str b t
  | _=>show nf' e
 | bl a=>
  cases d;cases x with
  | non=>cases c;show SeqAt.EqAt.bool_none a
  | bl b=>cases c;show SeqAt.EqAt.bool_bool a b
  | int b=>obtain⟨t,rfl⟩:=c;show SeqAt.EqAt.bool_int a b t
  | str b=>obtain⟨t,rfl⟩:=c;show SeqAt.EqAt.bool_str a b t
  | _=>show nf' e
 | int a=>
  obtain⟨t',rfl⟩:=d;cases x with
  | non=>cases c;show SeqAt.EqAt.int_none a t'
  | bl b=>cases c;show SeqAt.EqAt.int_bool a t' b
  | int b=>obtain⟨t,rfl⟩:=c;show SeqAt.EqAt.int_int a t' b t
  | str b=>obtain⟨t,rfl⟩:=c;show SeqAt.EqAt.int_str a t' b t
  | _=>show nf' e
 | str a=>
  obtain⟨t',rfl⟩:=d;cases x with
  | non=>cases c;show SeqAt.EqAt.str_none a t'
  | bl b=>cases c;show SeqAt.EqAt.str_bool a t' b
  | int b=>obtain⟨t,rfl⟩:=c;show SeqAt.EqAt.str_int a t' b t
  | str b=>obtain⟨t,rfl⟩:=c;show SeqAt.EqAt.str_str a t' b t
  | _=>show nf' e
 | _=>show nf' f
noncomputable def eqU(x:V)(u:AC):Bool:=match u with
 | .none=>eqV .non x
 | .bool b=>eqV (.bl b) x
 | .int i _=>eqV (.int i) x
 | .str z _=>eqV (.str z) x
 | _=>false
theorem z4l(r:RelV y u)(f:yD y=true):eqU x u=eqV y x:=by
 cases y with
 | non=>cases r;rfl
 | bl b=>cases r;rfl
 | int i=>obtain⟨t,rfl⟩:=r;rfl
 | str z=>obtain⟨t,rfl⟩:=r;rfl
 | _=>show nf' f
theorem z2S{x:V}:∀{xs:List V} {us:List AC},zS xs us->xs.all yD=true->us.any (eqU x)=xs.any λy=>eqV y x
 | _,_,.nil,_=>rfl
 | y::xs,u::us,.cons r t,f=>by
  rw[List.all_cons,qX]at f;rw[w1U,w1U,z4l r f.1,z2S t f.2]
theorem z0K{A:Aj}{s:AE}{x:V}{v:AC}(a:RelV x v)(b:yD x=true):∀{xs:List V} {us:List AC},zS xs us->xs.all yD=true->∀u∈us,SeqAt.EqAt A s u v (eqU x u)
 | _,_,.nil,_=>λu hu=>by cases hu
 | y::xs,u::us,.cons r t,f=>λc hu=>by
  rw[List.all_cons,qX]at f;rcases wF.mp hu with rfl|hu
  .rw [z4l r f.1];show z6h r a f.1 b
  .exact z0K a b t f.2 c hu
noncomputable def inV(x:V)(xs:List V):Bool:=xs.any λy=>eqV y x
def rIn(K:W.Frag)(a:Bool):R2:=λx y H Q=>∃p xs,y= .ref p/\(SqL K H p xs\/SqT K H p xs)/\yD x=true/\xs.all yD=true/\Q (.bl (if a then !inV x xs else inV x xs)) H
theorem kU:OpR X (compareOp .In) (rIn X.K false):=by
 intro A2 s σ H x y v u Q I b d h;obtain⟨p,xs,rfl,hq,c,fs,q⟩:=h;cases d;rcases hq with hq|hq
 .obtain⟨aa,r,pl,hz⟩:=I.list hq;show SeqAt.in_listAt (eqU x) pl.isList (λw a=>z0K b c r fs w (by simpa using a)) (.bl _,H,I,rfl,?_);rw[show aa.toArray.any (eqU x)=aa.any (eqU x) by simp,z2S r fs];show q
 .obtain⟨aa,r,pl,hz⟩:=I.tuple hq;show SeqAt.in_tupleAt (eqU x) pl (λw a=>z0K b c r fs w (by simpa using a)) (.bl _,H,I,rfl,?_);rw[show aa.toArray.any (eqU x)=aa.any (eqU x) by simp,z2S r fs];show q
theorem kG:OpR X (compareOp .NotIn) (rIn X.K true):=by
 intro A2 s σ H x y v u Q I b d h;obtain⟨p,xs,rfl,hq,c,fs,q⟩:=h;cases d;rcases hq with hq|hq
 .obtain⟨aa,r,pl,hz⟩:=I.list hq;show SeqAt.notIn_listAt (eqU x) pl.isList (λw a=>z0K b c r fs w (by simpa using a)) (.bl _,H,I,rfl,?_);rw[show aa.toArray.any (eqU x)=aa.any (eqU x) by simp,z2S r fs];show q
 .obtain⟨aa,r,pl,hz⟩:=I.tuple hq;show SeqAt.notIn_tupleAt (eqU x) pl (λw a=>z0K b c r fs w (by simpa using a)) (.bl _,H,I,rfl,?_);rw[show aa.toArray.any (eqU x)=aa.any (eqU x) by simp,z2S r fs];show q
theorem z39:kr X (.builtin "len") (λxs H Q=>∃p ys,xs= [.ref p]/\(SqL X.K H p ys\/SqT X.K H p ys)/\Q (.int ys.length) H):=by
 intro A2 s σ H xs us Q I r h;obtain⟨p,ys,rfl,hq,q⟩:=h;obtain⟨u,rfl,a⟩:=vals1 r;cases a;have hn:=z2G;rcases hq with hq|hq
 .obtain⟨aa,r',pl,hz⟩:=I.list hq;have hlen:=r'.length;show Calls.call_len_list pl.isList (by simp only[wB]<;>lia) (.int ys.length,H,I.tok _,(s.toks+1,by rw[wB,hlen]),q)
 .obtain⟨aa,r',pl,hz⟩:=I.tuple hq;have hlen:=r'.length;show len_tuple pl (by simp only[wB]<;>lia) (.int ys.length,H,I.tok _,(s.toks+1,by rw[wB,hlen]),q)
theorem yL:kr X (.type "list") (λxs H Q=>∃p ys,xs= [.ref p]/\(SqL X.K H p ys\/SqT X.K H p ys)/\∀l,H l=AB->Q (.ref l) (upd H l (.lst ys))):=by
 intro A2 s σ H xs us Q I r h;obtain⟨p,ys,rfl,hq,q⟩:=h;obtain⟨u,rfl,d⟩:=vals1 r;cases d;have fin:∀(aa:List AC),zS ys aa->ys.length<=AI->∀(h':AN)(a:Nat),(∀b o',s.heap.get? b=AA o'->h'.get? b=AA o')->
   h'.get? s.heap.objs.size=AA {cls:= .type "list",dict:=AB,data:= .seq aa.toArray a,slots:= #[]}->EP X A2 σ Q (.ref s.heap.objs.size) {s with heap:=h'}:=λaa r' hz h' a kp e=>
  (.ref s.heap.objs.size,_,I.laid (t':=s.toks) kp (wy _) (show jh X.prog X.w _ h' _ (.lst ys)from(hz,aa,a,r',e)),rfl,q _ (I.hok.fresh (wy _)))
 rcases hq with hq|hq
 .obtain⟨aa,r',pl,hz⟩:=I.list hq;have hlen:=r'.length;obtain⟨o,c,hc,n,hd⟩:=pl.isList;show call_list_seq p (.inl rfl) c hc hd (λh' a kp e=>fin aa r' hz h' a kp e) (by simp only[wB]<;>lia)
 .obtain⟨aa,r',pl,hz⟩:=I.tuple hq;have hlen:=r'.length;obtain⟨o,c,hc,n,hd⟩:=pl;show call_list_seq p (.inr rfl) c hc hd (λh' a kp e=>fin aa r' hz h' a kp e) (by simp only[wB]<;>lia)
theorem z1c:kr X (.type "tuple") (λxs H Q=>∃p ys,xs= [.ref p]/\((SqL X.K H p ys/\∀l,H l=AB->Q (.ref l) (upd H l (.tup ys)))\/(SqT X.K H p ys/\Q (.ref p) H))):=by
 intro A2 s σ H xs us Q I r h;obtain⟨p,ys,rfl,h⟩:=h;obtain⟨u,rfl,c⟩:=vals1 r;cases c;rcases h with⟨hq,q⟩|⟨hq,q⟩
 .obtain⟨aa,r',pl,hz⟩:=I.list hq;have hlen:=r'.length;show call_tuple_list pl.isList (λh' kp=>?_) (by simp only[wB]<;>lia);have a:Inv X A2 σ H {s with heap:=h'}:=I.kept (t':=s.toks) kp;have d:Inv X A2 σ (upd H h'.objs.size (.tup ys)) {s with heap:=h'.push {cls:= .type "tuple",data:= .seq aa.toArray}}:=
   a.laid (t':=s.toks) (λb o e=>wo _ e) (wy _) (show jh X.prog X.w _ _ _ (.tup ys)from(hz,aa,r',IsTup.new _ _))
  show(.ref h'.objs.size,_,d,rfl,q _ (a.hok.fresh (wy _)))
 .obtain⟨aa,r',pl,hz⟩:=I.tuple hq;show call_tuple_same pl (.ref p,H,I,rfl,q)
def tyV(K:W.Frag)(T:String)(x:V)(H:Hp):Prop:=match x with
 | .str _=>T="str"
 | .int _=>T="int"
 | .ref p=>(T="list"/\∃xs,SqL K H p xs)\/(T="tuple"/\∃o,K.lookup p=AA o/\o.cls= .type "tuple"/\o.dict=AB)\/
   (T="dict"/\((∃kvs,H p=AA (.dK kvs))\/∃kvs,H p=AA (.dT kvs)))\/(T="set"/\∃S n,H p=AA (.set S n))
 | _=>False
theorem zcS{σ:St}{v:AC}(I:Inv X A2 σ H s)(r:RelV x v)(ty:tyV X.K T x H):
  s.TypeIs v T/\∀a,v= .ref a->∃d,s.heap.get? a=AA d/\d.dict=none:=by
 cases x with
 | str z=>
  obtain⟨t,rfl⟩:=r;cases (show T="str" from ty);show(typeIs_str s z t,λu e=>nomatch e)
 | int i=>
  obtain⟨t,rfl⟩:=r;cases (show T="int" from ty);show(typeIs_int s i t,λu e=>nomatch e)
 | ref p=>
  cases r;rcases ty with⟨rfl,xs,hq⟩|⟨rfl,o,hk,hc,hd⟩|⟨rfl,hk⟩|⟨rfl,S,n,hk⟩
  .obtain⟨aa,_,pl,_⟩:=I.list hq;show(pl.isList.typeIs,λa e=>?_);cases e;obtain⟨o,n,e,c,hd,_⟩:=pl;show(o,e,hd)
  .refine((o,I.kIn p o hk,hc),λa e=>?_);cases e;show(o,I.kIn _ o hk,hd)
  .have z:∃o,s.heap.get? p=AA o/\o.ExactDict:=by
    rcases hk with⟨kvs,hk⟩|⟨kvs,hk⟩
    .obtain⟨_,_,_,_,o,_,_,e,ex,_⟩:=I.hok p _ hk;show(o,e,ex)
    .obtain⟨_,_,_,_,o,_,_,e,ex,_⟩:=I.hok p _ hk;show(o,e,ex)
   obtain⟨o,e,ex⟩:=z;show((o,e,ex.1),λa b=>?_);cases b;show(o,e,ex.2.1)
  .obtain⟨o,_,_,_,e,ex,_⟩:=I.hok p _ hk;show((o,e,ex.1),λa b=>?_);cases b;show(o,e,ex.2.1)
 | _=>show False.elim ty
def zgX(K:W.Frag)(T:String)(r:V->List V->Hp->VK->Prop)(to:TE):TE:=λσ H Q=>to σ H λx H1=>tyV K T x H1/\r x [] H1 Q
def tBM(K:W.Frag)(T:String)(r:V->List V->Hp->VK->Prop)(to:TE)(t:TA):TE:=λσ H Q=>to σ H λx H1=>tyV K T x H1/\t σ H1 λxs H2=>r x xs H2 Q
variable{o:Expr}{es:List Expr}{to:TE}{t:TA}{name:Str}{apos am:Pos}{id:String}{r:V->List V->Hp->VK->Prop}
theorem z4T(f:PlainAttrs T)(slot:Slot T name id)(c:typeOf (.builtin id)=pure (.type "method_descriptor"))(hm:MtR X id r)(b:PE X o to)
  (d:(attributeBase o name X.env (eval o X.env)=eval o X.env)⁻¹)(e:((apos.endLine == am.line)=true)⁻¹):PE X (.Call (.Attribute o name apos) [] [] am) (zgX X.K T r to):=by
 intro A2 s σ H Q I h;show wpAny_Call_method0_late d e (thn (b A2 s σ H _ I h) ?_);rintro v j ⟨x,H1,a,r1,ty,i⟩;obtain⟨h1,h2⟩:=zcS a r1 ty;show(T,id,f,slot,c,h1,h2,w1i rfl (PySem.evalArgs_none (hm A2 j σ H1 x [] v [] Q a r1 .nil i)))
theorem kH(p:PlainAttrs T)(slot:Slot T name id)(d:typeOf (.builtin id)=pure (.type "method_descriptor"))(hm:MtR X id r)(c:PE X o to)(ha:PA X (e::es) t)
  (f:(attributeBase o name X.env (eval o X.env)=eval o X.env)⁻¹)
  (i:((backTo am (AJ (e::es) X.env)).all (λx=> !x.1)&&(backToKw am (keywordEach [] X.env)).all (λx=>x.1.isSome)
   && decide ((e::es).length+([]:List Keyword).length+(if([]:List Keyword).isEmpty then 0 else 1)<30))=true:=by rfl)
  (l:((apos.endLine == am.line)=true)⁻¹) (hs:e∣es) (hplain:((backTo am (AJ es X.env)).any (·.1)=false)⁻¹):
  PE X (.Call (.Attribute o name apos) (e::es) [] am) (tBM X.K T r to t):=by
 intro A2 s σ H Q I h;show wpAny_Call_method_late f i l rfl (thn (c A2 s σ H _ I h) ?_);rintro v w ⟨x,H1,a,r1,ty,q⟩;obtain⟨h1,h2⟩:=zcS a r1 ty;show(T,id,p,slot,d,h1,h2,?_);have b:=ha am A2 w σ H1 _ a q;rw[hs]at b ⊢;show w1i (by change(false||(backTo am (AJ es X.env)).any (·.1))=false;rw[hplain]<;>rfl) (w1z ?_);show thn b λus u ⟨vs,H2,j,r2,n⟩=>hm A2 u σ H2 x vs v us Q j r1 r2 n
end
def MtM(X:Cx)(id:String)(r:V->List V->Hp->VK->Prop):Prop:=
 ∀(A2:List (AD×Obj))(s:AE)(σ:St)(H:Hp)(x:V)(xs:List V)(v:AC)(us:List AC)(Q:VK),Inv X A2 σ H s->RelV x v->zS xs us->r x xs H Q->
  AT (AV X.prog X.w) X.A (call (.builtin id) (v::us)) (EP X A2 σ Q) X.xe s
theorem zS.one(h:zS [x] us):∃u,us= [u]/\RelV x u:=by
 rcases h with _|⟨r,t⟩;cases t;show(_,rfl,r)
def zS.zero:∀{us:List AC},zS [] us->us= []
 | _,.nil=>rfl
theorem zS.dropLast{xs:List V}(h:zS xs us):zS xs.dropLast us.dropLast:=by
 induction h with
 | nil=>show .nil
 | cons r t a=>
  cases t with
  | nil=>show .nil
  | cons q t'=>show .cons r a
theorem z8D(l:List α):l.eraseIdx (l.length-1)=l.dropLast:=List.eraseIdx_length_sub_one
variable{t':Nat}
section
variable{σ:St}{l b:AD}{xs ys zs:List V}
theorem Inv.lset{its':List AC}{f:Array AC->Array AC}(I:Inv X A2 σ H s)(h:H l=AA (.lst xs))
  (e:s.heap.get? l=AA {cls:= .type "list",data:= .seq aa.toArray n})(c:f aa.toArray=its'.toArray)(b:zS ys its')(hz:ys.length<=AI):
  Inv X A2 σ (upd H l (.lst ys)) {s with heap:=s.heap.update l (Obj.mapSeq f),toks:=t'}:=by
 have q:=PySem.IsL.update e f;rw[c]at q;show I.write (x:=l) (e:=l) (by rw[h];show trivial) (.inl rfl) (λi u a d=>(qS s.heap (Obj.mapSeq f) (w0K a)).trans d) (_,q) ?_;show(hz,its',_,b,q)
def Inv.lnew(I:Inv X A2 σ H s)(a:zS ys aa)(hz:ys.length<=AI):
  Inv X A2 σ (upd H s.heap.objs.size (.lst ys)) {s with heap:=s.heap.push {cls:= .type "list",data:= .seq aa.toArray},toks:=t'}:=
 I.laid (λv v q=>wo _ q) (wy _) (hz,aa,0,a,wX _ rfl)
def Inv.fresh(I:Inv X A2 σ H s):H s.heap.objs.size=none:=I.hok.fresh (wy _)
theorem Inv.lstM(I:Inv X A2 σ H s)(a:H l=AA (.lst xs)):xs.length<=AI/\∃(aa:List AC)(n:Nat),zS xs aa/\xs.length=aa.length/\s.heap.get? l=AA {cls:= .type "list",data:= .seq aa.toArray n}:=by
 obtain⟨z,aa,n,r,e⟩:=I.hok l _ a;show(z,aa,n,r,r.length,e)
theorem zbO(h:n<=AI):Builtin.List.listTooLong n=false:=by
 unfold Builtin.List.listTooLong;show wL (by lia)
end
def z8Z:V->List V->Hp->VK->Prop:=λx vs H Q=>∃l xs y,x= .ref l/\vs= [y]/\H l=AA (.lst xs)/\xs.length<AI/\Q .non (upd H l (.lst (xs++[y])))
theorem zaQ:MtM X "list.append" z8Z:=by
 intro A2 s σ H x vs v us Q I b d h;obtain⟨l,xs,y,rfl,rfl,a,hz,q⟩:=h;cases b;obtain⟨u,rfl,c⟩:=d.one;obtain⟨z,aa,n,r,hl,e⟩:=I.lstM a;show w2c F.slot_list_append (_,e,rfl) F.entry_list_append (F.args_list_append_2 _ _) (PySem.list_append l aa.toArray n u (by rw[wB];lia)) (e,?_);show(.non,_,I.lset (its':=aa++[u]) a e (by simp) (r.append (.cons c .nil)) ?_,rfl,q);rw[wg,wZ]
 lia
def ze5:V->List V->Hp->VK->Prop:=λx vs H Q=>∃l b xs zs,x= .ref l/\vs= [.ref b]/\H l=AA (.lst xs)/\H b=AA (.lst zs)/\xs.length+zs.length<=AI/\Q .non (upd H l (.lst (xs++zs)))
theorem z5H:MtM X "list.extend" ze5:=by
 intro A2 s σ H x vs v us Q I i t h;obtain⟨l,b,xs,zs,rfl,rfl,c,o,hz,q⟩:=h;cases i;obtain⟨u,rfl,p⟩:=t.one;cases p;obtain⟨z,aa,n,r,hl,e⟩:=I.lstM c;obtain⟨y,a,d,r2,w,j⟩:=I.lstM o;have hsz:aa.toArray.size+a.toArray.size<=sizeLine:=by rw[wB,wB];lia
 have f:¬(!aa.toArray.isEmpty&&Builtin.List.listTooLong (aa.toArray.size+a.toArray.size))=true:=by
  rw[zbO hsz,Bool.and_false];show wQ
 show w2c F.slot_list_extend (_,e,rfl) F.entry_list_extend (F.args_list_extend_2 _ _)
  (AutoSeq1.list_extend_list_list_0 l aa.toArray n b a.toArray d f (by rw[wB];lia) (by lia)) (e,j,?_)
 show(.non,_,I.lset (its':=aa++a) c e (by simp) (r.append r2) ?_,rfl,q);rw[wg]
 lia
def zgr:V->List V->Hp->VK->Prop:=λx vs H Q=>∃l xs y,x= .ref l/\vs= []/\H l=AA (.lst xs)/\xs[xs.length-1]? =AA y/\Q y (upd H l (.lst xs.dropLast))
theorem z4D:MtM X "list.pop" zgr:=by
 intro A2 s σ H x vs v us Q I b i h;obtain⟨l,xs,y,rfl,rfl,a,o,q⟩:=h;cases b;have j:=i.zero;subst j;obtain⟨z,aa,n,r,hl,e⟩:=I.lstM a;obtain⟨u,c,f⟩:=r.get o;have d:aa.toArray[aa.toArray.size-1]? =AA u:=by
  change aa.toArray[aa.length-1]? =AA u
  rw[<-w0F,<-hl];show c
 show w2c F.slot_list_pop (_,e,rfl) F.entry_list_pop (F.args_list_pop_1 _) (MeetsSeq.list_pop_last l aa.toArray n u d (by rw[wB];lia)) (e,?_);show(y,_,I.lset (its':=aa.dropLast) a e ?_ r.dropLast ?_,f,q)
 .show aa.toArray.eraseIdxIfInBounds (aa.toArray.size-1)=aa.dropLast.toArray
  rw[wB,List.eraseIdxIfInBounds_toArray,z8D]
 .rw [List.length_dropLast]
  lia
def zg3:R2:=λx y H Q=>∃l b xs zs,x= .ref l/\y= .ref b/\H l=AA (.lst xs)/\H b=AA (.lst zs)/\xs.length+zs.length<=AI/\∀p,H p=AB->Q (.ref p) (upd H p (.lst (xs++zs)))
theorem ju:OpR X (binaryOp .Add) zg3:=by
 intro A2 s σ H x y v u Q I c d h;obtain⟨l,b,xs,zs,rfl,rfl,j,i,hz,q⟩:=(h);cases c;cases d;obtain⟨z,aa,n,r,hl,e⟩:=(I.lstM j);obtain⟨t,a,o,r2,p,f⟩:=(I.lstM i);show PySem.P.add_list e f ?_ (by rw[wB,wB];lia);have ea:aa.toArray++a.toArray=(aa++a).toArray:=by simp
 rw[ea];show(.ref _,_,I.lnew (t':=s.toks) (r.append r2) (by rw[wg];lia),rfl,q _ I.fresh)
variable{o:Option V}
section
variable{κ:Type}[DecidableEq κ]
noncomputable def yd(kvs:List (κ×V))(k:κ):Option V:=(kvs.find? λkv=>decide (kv.1=k)).map (·.2)
noncomputable def putK(kvs:List (κ×V))(k:κ)(v:V):List (κ×V):=
 if(kvs.any λkv=>decide (kv.1=k))=true then kvs.map (λkv=>if kv.1=k then(kv.1,v)else kv)else kvs++[(k,v)]
variable{r:List (κ×V)}
theorem yH{p:κ×V}{k:κ}(e:p.1=k):yd (p::r) k=AA p.2:=by simp[yd,w1s,e]
theorem yB{p:κ×V}{k:κ}(e:¬p.1=k):yd (p::r) k=yd r k:=by simp[yd,w1s,e]
theorem z0f(k:κ):∀kvs:List (κ×V),(kvs.any λkv=>decide (kv.1=k))=(yd kvs k).isSome
 | []=>rfl
 | p::r=>by
  rw[w1U];by_cases e:p.1=k
  .simp only [yH e,qd e,Bool.true_or,Option.isSome_some]
  .rw [yB e,wL e,Bool.false_or];show z0f k r
theorem z7N(k j:κ)(y:V):∀kvs:List (κ×V),yd (kvs.map λkv=>if kv.1=k then(kv.1,y)else kv) j=(yd kvs j).map λx=>if j=k then y else x
 | []=>rfl
 | p::r=>by
  have a:=z7N k j y r;rw[qK];by_cases h:p.1=k
  .rw [qc h];by_cases e:p.1=j
   .rw [yH (p:=(p.1,y)) e,yH e,Option.map_some,qc (e.symm.trans h)]
   .rw [yB (p:=(p.1,y)) e,yB e,a]
  .rw [wW h];by_cases e:p.1=j
   .rw [yH (p:=p) e,yH e,Option.map_some,wW (λz=>h (e.trans z))]
   .rw [yB (p:=p) e,yB e,a]
theorem z69(k j:κ)(y:V):∀kvs:List (κ×V),yd kvs k=AB->yd (kvs++[(k,y)]) j=if j=k then AA y else yd kvs j
 | [],_=>by
  by_cases e:k=j
  .rw [qc e.symm];show yH (p:=(k,y)) e
  .rw [wW (λz=>e z.symm)];show yB (p:=(k,y)) e
 | p::r,hn=>by
  rw[List.cons_append];have a:¬p.1=k:=λz=>by rw[yH z]at hn;cases hn
  rw[yB a]at hn;have b:=z69 k j y r hn;by_cases e:p.1=j
  .rw [yH e,yH e,wW (λz=>a (e.trans z))]
  .rw [yB e,yB e,b]
theorem z57(kvs:List (κ×V))(k j:κ)(y:V):yd (putK kvs k y) j=if j=k then AA y else yd kvs j:=by
 unfold putK;by_cases a:(kvs.any λkv=>decide (kv.1=k))=true
 .rw [qc a,z7N];rw[z0f]at a;by_cases e:j=k
  .obtain⟨x,b⟩:=QL.mp a;rw[qc e,e,b,Option.map_some,qc rfl]
  .rw [wW e];cases yd kvs j with
   | none=>rfl
   | some x=>rw[Option.map_some,wW e]
 .rw [wW a];show z69 k j y kvs ?_;rw[z0f]at a;cases q:yd kvs k with
  | none=>rfl
  | some x=>rw[q]at a;show(a rfl).elim
theorem ku(kvs:List (κ×V))(k:κ)(v:V):(putK kvs k v).length<=kvs.length+1:=by
 unfold putK;split
 .rw [wa];lia
 .rw [wg,wP,QS];lia
variable{kvs:List (κ×V)}
theorem zcn{k:κ}(v:V)(h:yd kvs k=AB):putK kvs k v=kvs++[(k,v)]:=by
 unfold putK;rw[z0f,h];show wW (by decide)
theorem z1P.isSome_eq{u:Option AC}(r:z1P o u):o.isSome=u.isSome:=by
 cases o with
 | none=>cases u with
  | none=>rfl
  | some _=>show(show False from r).elim
 | some _=>cases u with
  | none=>show(show False from r).elim
  | some _=>rfl
theorem z1P.getD{u:Option AC}{d:V}{d':AC}(r:z1P o u)(a:RelV d d'):RelV (o.getD d) (u.getD d'):=by
 cases o with
 | none=>cases u with
  | none=>show a
  | some _=>show(show False from r).elim
 | some _=>cases u with
  | none=>show(show False from r).elim
  | some _=>show r
variable{vs:List (κ×AC)}
theorem KV.val(r:KV kvs vs)(k:κ):z1P (yd kvs k) (valueAt vs k):=by
 unfold KV at r
 induction r with
 | nil=>show w0m
 | @cons p q ps c h t d=>
  obtain⟨h1,h2⟩:=h;by_cases e:p.1=k
  .have a:q.1=k:=h1.symm.trans e;have b:valueAt (q::c) k=AA q.2:=by simp[valueAt,w1s,a]
   rw[yH e,b];show h2
  .have a:¬q.1=k:=λz=>e (h1.trans z)
   have b:valueAt (q::c) k=valueAt c k:=by simp[valueAt,w1s,a]
   rw[yB e,b];show d
theorem KV.any(r:KV kvs vs)(k:κ):(kvs.any λkv=>decide (kv.1=k))=vs.any λkv=>decide (kv.1=k):=by
 unfold KV at r
 induction r with
 | nil=>rfl
 | cons h t a=>rw[w1U,w1U,a,h.1]
theorem KV.repl(r:KV kvs vs)(k:κ)(a:RelV y u):
  KV (kvs.map λkv=>if kv.1=k then(kv.1,y)else kv) (vs.map λkv=>if kv.1=k then(kv.1,u)else kv):=by
 unfold KV at r ⊢
 induction r with
 | nil=>show .nil
 | @cons p q ps c h t b=>
  rw[qK,qK];show .cons ?_ b;obtain⟨h1,h2⟩:=h;by_cases e:p.1=k
  .rw [qc e,qc (h1.symm.trans e)];show(h1,a)
  .rw [wW e,wW (λz=>e (h1.trans z))];show(h1,h2)
theorem KV.put(r:KV kvs vs)(k:κ)(a:RelV y u):KV (putK kvs k y) (stored vs k u):=by
 unfold putK stored;rw[r.any k];by_cases e:(vs.any λkv=>decide (kv.1=k))=true
 .rw [qc e,qc e];show r.repl k a
 .rw [wW e,wW e];show Paired.snoc r (rfl,a)
theorem KV.keys(r:KV kvs vs):kvs.map (·.1)=vs.map (·.1):=by
 unfold KV at r
 induction r with
 | nil=>rfl
 | cons h t a=>rw[qK,qK,a,h.1]
theorem KV.length(r:KV kvs vs):kvs.length=vs.length:=Paired.length r
end
variable{P:AM}{w:Av}
theorem z7d{k:Key}(r:RelV (kV k) u):(jC P w).is k u=true:=by
 cases k with
 | inl i=>obtain⟨t,e⟩:=(show∃t,u=Value.int i t from r);subst e;show z7L P w i t
 | inr x=>obtain⟨t,e⟩:=(show∃t,u=Value.str x t from r);subst e;show z7Z P w x t
theorem z5W{P:AM}{w:Av}:∀{ks:List Key} {us:List AC},zS (ks.map kV) us->ItemsAre (jC P w) ks us
 | [],_,r=>by rw[w1Q]at r;cases r;show .nil
 | k::ks,_,r=>by
  rw[qK]at r;cases r with
  | cons h t=>show .cons (z7d h) (z5W t)
abbrev KT(H:Hp):List (List Key×V)->List (List Key×AD×AC)->Prop:=Paired λp q=>p.1=q.1/\H q.2.1=AA (.tup (p.1.map kV))/\RelV p.2 q.2.2
variable{xs:List (List Key×AD×AC)}{kvs:List (List Key×V)}
theorem KT.val(r:KT H kvs xs)(k:List Key):z1P (yd kvs k) ((atKey xs k).map (·.2)):=by
 induction r with
 | nil=>show w0m
 | @cons p q ps c h t d=>
  obtain⟨h1,_,h2⟩:=h;by_cases e:p.1=k
  .have a:q.1=k:=h1.symm.trans e;have b:atKey (q::c) k=AA q.2:=by simp[atKey,w1s,a]
   rw[yH e,b];show h2
  .have a:¬q.1=k:=λz=>e (h1.trans z)
   have b:atKey (q::c) k=atKey c k:=by simp[atKey,w1s,a]
   rw[yB e,b];show d
theorem KT.repl(r:KT H kvs xs)(k:List Key)(a:RelV y u):
  KT H (kvs.map λkv=>if kv.1=k then(kv.1,y)else kv) (xs.map (putAt k u)):=by
 induction r with
 | nil=>show .nil
 | @cons p q ps d h t b=>
  rw[qK,qK];show .cons ?_ b;obtain⟨h1,h2,c⟩:=h;unfold putAt;by_cases e:p.1=k
  .rw [qc e,qc (h1.symm.trans e)];show(h1,h2,a)
  .rw [wW e,wW (λz=>e (h1.trans z))];show(h1,h2,c)
theorem KT.put(r:KT H kvs xs)(k:List Key){b:AD}(c:H b=AA (.tup (k.map kV)))(a:RelV y u):
  KT H (putK kvs k y) (storedH xs k b u):=by
 have e:(kvs.any λkv=>decide (kv.1=k))=(atKey xs k).isSome:=by
  rw[z0f,(r.val k).isSome_eq,Option.isSome_map]
 unfold putK storedH;rw[e];by_cases q:(atKey xs k).isSome=true
 .rw [qc q,qc q];show r.repl k a
 .rw [wW q,wW q];show Paired.snoc r (rfl,c,a)
variable{H':Hp}
def KT.keeps(r:KT H kvs xs)(ht:∀b ys,H b=AA (.tup ys)->H' b=AA (.tup ys)):KT H' kvs xs:=
 Paired.mapP r λv v z=>(z.1,ht _ _ z.2.1,z.2.2)
variable{a:AD}
section
variable{h:AN}
def zee{u:HO}(ok:HOk P w H h)(e:Rd H a u):jh P w H h a u:=e.ok ok
def z7C{kvs:List (Key×V)}(ok:HOk P w H h)(e:Rd H a (.dK kvs)):kvs.length<=AI/\(a == sysModules)=false/\∃vs,KV kvs vs/\h.DictOf (jC P w) a vs:=
 show jh P w H h a (.dK kvs)from zee ok e
def zd3{kvs:List (Key×V)}(ok:HOk P w H h)(e:H a=AA (.dK kvs)):kvs.length<=AI/\(a == sysModules)=false/\∃vs,KV kvs vs/\h.DictOf (jC P w) a vs:=z7C ok (.inl e)
theorem z6g{ks:List Key}(ok:HOk P w H h)(e:H a=AA (.tup (ks.map kV))):(tupleKind (jC P w)).is h ks a:=by
 obtain⟨_,aa,r,o,h1,h2,n,b⟩:=(show jh P w H h a (.tup (ks.map kV))from ok a _ e);show(o,aa.toArray,n,h1,h2,b,by simpa using z5W r)
theorem z87(ok:HOk P w H h)(e:Rd H a (.dT kvs)):kvs.length<=AI/\(a == sysModules)=false/\
  ∃xs,KT H kvs xs/\h.DictOfH (tupleKind (jC P w)) a xs:=by
 obtain⟨z,y,xs,r,o,es,ep,h1,h2,f,d,c⟩:=((show jh P w H h a (.dT kvs)from zee ok e));show(z,y,xs,r,o,es,ep,h1,h2,f,d,λx hx=>?_,c);have all:∀{l:List (List Key×V)} {m:List (List Key×AD×AC)},KT H l m->∀x∈m,(tupleKind (jC P w)).is h x.1 x.2.1:=by
  intro l m q
  induction q with
  | nil=>intro x hx;show nomatch hx
  | @cons p q ps j b t i=>
   intro x hx;rcases wF.mp hx with e|hx
   .subst e;show z6g ok (by rw[<-b.1];show b.2.1)
   .exact i x hx
 show all r x hx
def zfP(ok:HOk P w H h)(e:H a=AA (.dT kvs)):kvs.length<=AI/\(a == sysModules)=false/\
  ∃xs,KT H kvs xs/\h.DictOfH (tupleKind (jC P w)) a xs:=z87 ok (.inl e)
end
def z40(H:Hp)(a:AD)(y:V)(r:Option V):Prop:=
 (∃kvs k,Rd H a (.dK kvs)/\y=kV k/\r=yd kvs k)\/∃kvs k b,Rd H a (.dT kvs)/\y= .ref b/\H b=AA (.tup (k.map kV))/\r=yd kvs k
def z8o(H:Hp)(a:AD)(y v:V)(H':Hp):Prop:=
 (∃kvs k,H a=AA (.dK kvs)/\y=kV k/\kvs.length<AI/\H'=upd H a (.dK (putK kvs k v)))\/
 ∃kvs k b,H a=AA (.dT kvs)/\y= .ref b/\H b=AA (.tup (k.map kV))/\kvs.length<AI/\H'=upd H a (.dT (putK kvs k v))
theorem z40.k{H:Hp}{a:AD}{kvs:List (Key×V)}{k:Key}(e:H a=AA (.dK kvs)):z40 H a (kV k) (yd kvs k):= .inl (kvs,k,.inl e,rfl,rfl)
theorem z8o.k{H:Hp}{a:AD}{kvs:List (Key×V)}{k:Key}{v:V}(e:H a=AA (.dK kvs))(hl:kvs.length<AI):z8o H a (kV k) v (upd H a (.dK (putK kvs k v))):= .inl (kvs,k,e,rfl,hl,rfl)
variable{E Q:AC->AE->Prop}{h':AN}
section
variable{σ:St}{v:V}{r:AC}
theorem Inv.big(I:Inv X A2 σ H s):sysModules<s.heap.objs.size:=by
 have h:AK<s.heap.objs.size:=(I.mod.glob.keeps I.bk).lt;show Nat.lt_trans (by decide) h
theorem zas(r:A.units+1<cLine)(I:Inv X A2 σ H s)(g:z40 H a y (AA v))(j:RelV y u)(h:∀c s',Inv X A2 σ H s'->RelV v c->Q c s'):
  AT (AV X.prog X.w) A (getItem (.ref a) u) Q E s:=by
 rcases g with⟨kvs,k,e,ey,l⟩|⟨kvs,k,b,e,ey,eb,l⟩
 .subst ey;obtain⟨z,hd,vs,i,dd⟩:=z7C I.hok e;obtain⟨c,f,d⟩:=z1P.some_of (v:=v) (o:=valueAt vs k) (by rw[l];show i.val k);show wpAny_getItem_of (z7d j) dd.mapOf f (h c _ (I.tok _) d)
 .subst ey;cases (show u=Value.ref b from j);obtain⟨z,hd,xs,i,dd⟩:=z87 I.hok e;obtain⟨c,f,d⟩:=z1P.some_of (v:=v) (o:=(atKey xs k).map (·.2)) (by rw[l];show i.val k);obtain⟨p,n,q⟩:=Option.map_eq_some_iff.mp f;show wpAny_getItem_heap (tupleKind_room_in1 r) (z6g I.hok eb) dd n ?_;rw[q];show h c _ (I.tok _) d
def z6I{c:HO}(I:Inv X A2 σ H s)(f:Mut (H a))(hs:Heap.SameBut a s.heap h')(he:∃q,h'.get? a=AA q)(new:jh X.prog X.w (upd H a c) h' a c):
  Inv X A2 σ (upd H a c) {s with heap:=h',toks:=t'}:=
 I.write (x:=a) (e:=a) f (.inl rfl) (λb q d z=>(hs.2 b d).trans z) he new
def zcl{kvs:List (Key×V)}{vs:List (Key×AC)}(z:kvs.length<=AI)(hd:(a == sysModules)=false)(b:KV kvs vs)(dd:h'.DictOf (jC P w) a vs):
  jh P w H' h' a (.dK kvs):=(z,hd,vs,b,dd)
theorem zaZ{Q:Unit->AE->Prop}(t:A.units+1<cLine)(I:Inv X A2 σ H s)(g:z8o H a y v H')(n:RelV y u)(o:RelV v r)(h:∀s',Inv X A2 σ H' s'->Q () s'):
  AT (AV X.prog X.w) A (setItem (.ref a) u r) Q E s:=by
 rcases g with⟨kvs,k,e,ey,l,eH⟩|⟨kvs,k,b,e,ey,eb,l,eH⟩
 .subst ey eH;obtain⟨z,hd,vs,d,dd⟩:=(zd3 I.hok e);have hz:vs.length<=sizeLine:=by rw[<-d.length];show z
  have hl:(putK kvs k v).length<=sizeLine:=by have:=ku kvs k v;lia
  show wpAny_setItem_pairs (hsz:=hz) (z7d n) dd λh' f hs=>h _ ?_
  have he:∃q,h'.get? a=AA q:=let ⟨q,_,_,i,_⟩:=f;(q,i)
  show z6I I (by rw[e];show w0m) hs he (zcl hl hd (d.put k o) f)
 .subst ey eH;cases (show u=Value.ref b from n);obtain⟨z,hd,xs,d,dd⟩:=(zfP I.hok e);have hz:xs.length<=sizeLine:=by rw[<-Paired.length d];show z
  have hl:(putK kvs k v).length<=sizeLine:=by have:=ku kvs k v;lia
  show wpAny_setItem_heap (hsz:=hz) (tupleKind_room_in1 t) (z6g I.hok eb) dd λh' f hs=>h _ ?_
  obtain⟨q,es,ep,i,h2,B,x,_,p⟩:=(f);show z6I I (by rw[e];show w0m) hs (q,i) (hl,hd,_,(d.put k eb o).keeps λc ys j=>?_,q,es,ep,i,h2,B,x,p);rw[zn (z3K j e (λz=>nomatch z))];show j
end
def zgp(i:Expr):Prop:=∀a b,subscripted i false a b=operate [a,b] (getItem a b)
theorem zdg{prog:AM}{env:Env}{value slice:Expr}{id:String}
  (hl:typeLookup (.type T) "__getitem__"=pure (AA (.builtin id)))(hs:zgp slice)
  (h:AT (AV prog w) A (eval value env) (λo f=>AT (AV prog w) A (eval slice env) (λi a=>a.TypeIs o T/\wpAny (AV prog w) A (getItem o i) Q E a) E f) E s):
  AT (AV prog w) A (eval (.Subscript value slice pos) env) Q E s:=by
 show Subscript_ (qQ h (λo f j=>qQ j (λi a d=>?_) λv v x=>x) λv v x=>x);obtain⟨e,d⟩:=d;unfold subscriptTail;show wu ?_;rw[getitemInPython_of_ne e.not_modules];show wu (wpAny_specialOf e hl ?_);have fin:AT (AV prog w) A (subscripted slice false o i) (λr b=>AT (AV prog w) A (letTemporaryGo value o r >>= λv=>pure r) Q E b) E a:=by
  rw[hs o i];show wpAny_operating (qQ d (λr b c=>wu (wpAny_letTemporaryGo (wN c))) λv v x=>x)
 first
  | show wN (wu fin)
  | show wu (wN (wu fin))
  | show wu fin
theorem z7v{σ:St}(I:Inv X A2 σ H s)(g:z40 H a y o):s.TypeIs (.ref a) "dict":=by
 rcases g with⟨kvs,k,e,_,_⟩|⟨kvs,k,b,e,_,_,_⟩
 .obtain⟨_,_,vs,_,dd⟩:=z7C I.hok e;show dd.typeIs
 .obtain⟨_,_,xs,_,dd⟩:=z87 I.hok e;show dd.typeIs
def zgj(td ty:TE):TE:=λσ H Q=>td σ H λx H1=>ty σ H1 λy H2=>∃a v,x= .ref a/\z40 H2 a y (AA v)/\Q v H2
def zg4(td ty tv:TE):TS:=λD σ H=>tv σ H λv H1=>td σ H1 λx H2=>ty σ H2 λy c=>∃a b,x= .ref a/\z8o c a y v b/\D.nx σ b
section
variable{o i value:Expr}{pos' oQ:Pos}{td ty tv:TE}
theorem z9U(j:X.A.units+1<cLine)(d:PE X o td)(hi:PE X i ty)(hs:zgp i):PE X (.Subscript o i pos) (zgj td ty):=by
 intro A2 s σ H Q I h;show zdg PySem.F.slot_dict_getitem.lookup hs (thn (d A2 s σ H _ I h) ?_);rintro u r ⟨x,H1,f,e,p⟩;show thn (hi A2 r σ H1 _ f p) ?_;rintro B z ⟨y,H2,b,l,a,v,ex,g,n⟩;subst ex;obtain rfl:u=Value.ref a:=e;show(z7v b g,zas j b g l λw t q c=>(v,H2,q,c,n))
theorem z6Y(f:X.A.units+1<cLine)(c:PE X o td)(hi:PE X i ty)(q:PE X value tv)(hs:swapsWith value (AA (.Subscript o i pos')) pos.line X.env=pure false):
  PS X (.Assign [.Subscript o i pos'] value pos) (zg4 td ty tv):=by
 intro A2 s σ H D I h;show wpAny_Assign_Subscript (thn (q A2 s σ H _ I h) ?_) hs;rintro r E ⟨v,H1,e,t,w⟩;show thn (c A2 E σ H1 _ e w) ?_;rintro u C ⟨x,H2,j,d,p⟩;show thn (hi A2 C σ H2 _ j p) ?_;rintro K G ⟨y,J,z,n,a,b,ex,g,B⟩;subst ex;obtain rfl:u=Value.ref a:=d;show zaZ f z g n t λF l=>(σ,b,l,B)
end
def zbh(h:AN)(a:sysModules<h.objs.size):jh P w H (h.push {cls:= .type "dict",data:= .dict #[]}) h.objs.size (.dK []):=
 (qN _,w0r.mpr (w0K (wS a)),[],.nil,Heap.DictOf.new h)
def zfo:TE:=λv H Q=>∀p,H p=AB->Q (.ref p) (upd H p (.dK []))
def z2Z:PE X (.Dict [] [] pos) zfo:=λA2 s σ H Q I h=>
 wpAny_Dict_empty (.ref s.heap.objs.size,_,I.laid (a:=s.heap.objs.size) (o:= .dK []) (t':=s.toks) (λv v q=>wo _ q) (wy _) (zbh s.heap I.big),rfl,h _ (I.hok.fresh (wy _)))
structure M2(X:Cx)(o:Expr)(m:Str)(apos:Pos)(e f:Expr)(am:Pos):Prop where
 base:attributeBase o m X.env (eval o X.env)=eval o X.env
 few:((backTo am (AJ [e,f] X.env)).all (λx=> !x.1)&&(backToKw am (keywordEach [] X.env)).all (λx=>x.1.isSome)
  && decide (([e,f]:List Expr).length+([]:List Keyword).length+(if([]:List Keyword).isEmpty then 0 else 1)<30))=true
 line:(apos.endLine == am.line)=true
 trees:backTo am (AJ [e,f] X.env)= [(false,eval e X.env),(false,eval f X.env)]
def IsD(H:Hp)(a:AD):Prop:=(∃kvs,Rd H a (.dK kvs))\/∃kvs,Rd H a (.dT kvs)
theorem zbZ{σ:St}(I:Inv X A2 σ H s)(d:IsD H a):
  s.TypeIs (.ref a) "dict"/\(∀b,Value.ref a= .ref b->∃c,s.heap.get? b=AA c/\c.dict=AB)/\(a == sysModules)=false:=by
 rcases d with⟨kvs,e⟩|⟨kvs,e⟩
 .obtain⟨_,hd,vs,_,dd⟩:=z7C I.hok e;show(dd.typeIs,λb q=>?_,hd);cases q;obtain⟨c,_,_,h1,h2,_⟩:=dd;show(c,h1,h2.2.1)
 .obtain⟨_,hd,xs,_,dd⟩:=z87 I.hok e;show(dd.typeIs,λb q=>?_,hd);cases q;obtain⟨c,_,_,h1,h2,_⟩:=dd;show(c,h1,h2.2.1)
section
variable{σ:St}{d:V}{r:AC}
theorem zev(n:A.units+1<cLine)(I:Inv X A2 σ H s)(g:z40 H a y o)(i:RelV y u)(j:RelV d r)(h:∀f s',Inv X A2 σ H s'->RelV (o.getD d) f->Q f s'):
  AT (AV X.prog X.w) A (call (.builtin "dict.get") [.ref a,u,r]) Q E s:=by
 rcases g with⟨kvs,k,e,ey,l⟩|⟨kvs,k,b,e,ey,eb,l⟩
 .subst ey;obtain⟨z,hd,vs,c,dd⟩:=z7C I.hok e;show call_meetsIn PySem.F.slot_dict_get dd.typeIs PySem.F.entry_dict_get (PySem.F.args_dict_get_3 _ _ _) (meets_dict_get_default (jC X.prog X.w) a (z7d i) hd r) (_,dd.mapOf,h _ _ (I.tok _) ?_);rw[l];show(c.val k).getD j
 .subst ey;cases (show u=Value.ref b from i);obtain⟨z,hd,xs,c,dd⟩:=z87 I.hok e;show call_meetsIn PySem.F.slot_dict_get dd.typeIs PySem.F.entry_dict_get (PySem.F.args_dict_get_3 _ _ _) (meetsH_dict_get_default (tupleKind (jC X.prog X.w)) a b hd r) (tupleKind_room_in1 n,k,xs,z6g I.hok eb,dd,h _ _ (I.tok _) ?_);rw[l];show(c.val k).getD j
end
def zfs(td ty tx:TE):TE:=λσ H Q=>td σ H λx H1=>∃a,x= .ref a/\IsD H1 a/\ty σ H1 λy H2=>tx σ H2 λz b=>∃o,z40 b a y o/\Q (o.getD z) b
section
variable{o f:Expr}{apos am:Pos}{td ty tx:TE}
theorem z4G(p:X.A.units+1<cLine)(i:PE X o td)(he:PE X e ty)(t:PE X f tx)(m:M2 X o "get" apos e f am):PE X (.Call (.Attribute o "get" apos) [e,f] [] am) (zfs td ty tx):=by
 intro A2 s σ H Q I h;show wpAny_Call_method m.base m.few m.line PySem.F.plainAttrs_dict PySem.F.slot_dict_get PySem.F.type_dict_get (thn (i A2 s σ H _ I h) ?_);rintro u L ⟨x,H1,b,j,a,ex,d,D⟩;subst ex;obtain rfl:u=Value.ref a:=j;obtain⟨l,K,_⟩:=zbZ b d;show(l,K,?_);rw[m.trees];show w1i rfl (w1z (Qu (thn (he A2 L σ H1 _ b D) λR J ⟨y,H2,r,B,C⟩=>
  Qu (thn (t A2 J σ H2 _ r C) λS N ⟨z,n,E,q,O,g,G⟩=>w0n ?_))))
 show zev p E g B q λP M w c=>(_,n,w,c,G)
end
end Lake
namespace Att
open PySem PySem.W PySem.Calls PyProof.Rows
variable{P:Params}{h:AN}
theorem z3W:∀(ns:List Int)(vs:List AC),WellAll P h vs (ns.map WData.int)->IntsAre vs ns:=by
 intro ns
 induction ns with
 | nil=>
  intro vs w;rw[w1Q]at w;cases w;show .nil
 | cons n ns c=>
  intro vs w;rw[qK]at w;cases w with
  | cons a b=>
   cases a;show .cons _ _ (c _ b)
variable{l:OpenLaw}{n:Nat}
theorem zaO(hn:l.most=AA n){args:List WData}{vals:List AC}
  (f:l.row.toRowW.claim.pre args=true)(o:WellAll P h vals args):
  ∃a vs ns,vals= [Value.ref a]/\args= [WData.list (ns.map WData.int)]/\h.get? a=AA {cls:= .type "list",data:= .seq vs.toArray}/\IntsAre vs ns/\ns.length<=n:=by
 have j:WShape.hasAll [] args [.list .int]=true:=(pre_splitW f).1;have hc:l.pre.holds [] {args:=args}=true:=(pre_splitW f).2;obtain⟨d,r,rfl,h1,h2⟩:=hasAllW_cons j;obtain rfl:=hasAllW_nil h2;obtain⟨xs,rfl,p⟩:=hasW_list h1;obtain⟨ns,rfl⟩:=items_int p;have hlen:ns.length<=n:=by
  unfold OpenLaw.pre at hc;have e:(WTm.not (.lt (.lit (.int (n:Int))) (.len (.arg 0)))).holds [] {args:= [.list (ns.map .int)]}=true:=by
   have e:=(holds_andW hc).1;rw[hn]at e;show e
  have c:=condW_of e (w_not (w_lt w_lit (w_len_list (w_arg rfl))));rw[wa]at c;show Nat.le_of_not_lt λq=>?_
  have q':(n:Int)<((ns.length:Nat):Int):=by lia
  first
   | (rw[qd q']at c;show absurd c (by decide))
   | (simp at c;lia)
 cases o with
 | cons w1 w2=>
  cases w2;cases w1 with
  | list i b=>show(_,_,ns,rfl,rfl,i,z3W ns _ b,hlen)
theorem zaP(l:OpenLaw)(args:List WData):l.row.toRowW.claim.post args (.bool true) args=true:=
 postW_of (r:=l.row.toRowW) (X:=(true == true))
  (show WShape.has [] (.bool true) .bool=true by first|rfl|decide|simp[WShape.has,WShape.arms,WShape.armsAll])
  (show(WTm.eq .res (.lit (.bool true))).value [] {args:=args,res:=AA (.bool true),after:=args}=AA (.bool (true == true))from w_eq_bool (w_res rfl) w_lit) rfl
theorem attach_call{q:AM}{loose:List Str}{h:(Str->Option AC)->AN->Prop}{i:Av->AN->Prop}{d:DefRec}
  (hn:l.most=AA n)(E:d.params.defaults= [])
  (call:∀(w:Av)(s₀ b:AE)(mg e:Str->Option AC)(c:AD)(o:Obj)(pm cd aY:AC)(a:AD)(vs:List AC)(ns:List Int),
   Ground q loose [] h w s₀ mg e b.heap->i w b.heap->
   b.heap.get? c=AA o->o.data= .func (docDef d.name d.params d.body d.scope pm cd aY)->b.heap.CodeRec cd d.name->mg d.name=AA (.ref c)->
   b.heap.get? a=AA {cls:= .type "list",data:= .seq vs.toArray}->IntsAre vs ns->ns.length<=n->b.gens= #[]->
   codeAny (AV l.prog w) callerA (.call (.ref c) ([.ref a],[])) (λr s'=>r= .ok (.ret (.bool true))/\OldK b.heap s'.heap/\s'.os=b.os/\AllBare s'.gens) b):
  WalkO q loose h i l.row.toRowW d [] (λf vs=>PySem.call f vs):=by
 intro w s₀ b mg e G Y c o pm cd aY A kV p hd s j z y args vals I t J F x H;obtain rfl:A= .none:=Dflts.none j E;obtain rfl:kV= .none:=Dflts.noKw j;obtain⟨a,vs,ns,rfl,rfl,B,hints,hlen⟩:=zaO hn t x;show enter_call (w04 (call w s₀ b mg e c o pm cd aY a vs ns G Y p (fd_plain hd) s z B hints hlen y) λr s' D=>?_);obtain⟨rfl,h2,C,u⟩:=D;show(.inl (.bool true,.bool true,[],rfl,λv=>rfl,.bool true,zaP l _,λv=>(List.Pairwise.nil,λv hm=>(nomatch hm))),h2,C,u)
end Att
namespace Lake
open PySem PySem.Spec PyProof.Rows
section
def z6a:∀{vs:List AC} {ns:List Int},IntsAre vs ns->zS (ns.map V.int) vs
 | _,_,.nil=> .nil
 | _,_,.cons n t h=> .cons (t,rfl) (z6a h)
noncomputable def z0B(s:Stmt):Arguments:=match s with
 | .FunctionDef _ a _ _ _ _ _ _ _ _=>a
 | _=>{posonlyargs:= [],args:= [],vararg:=AB,kwonlyargs:= [],kw_defaults:= [],kwarg:=AB,defaults:= []}
noncomputable def jN(s:Stmt):List Stmt:=match s with
 | .FunctionDef _ _ b _ _ _ _ _ _ _=>b
 | _=> []
noncomputable def zj(s:Stmt):Scope:=match s with
 | .FunctionDef _ _ _ _ _ _ sc _ _ _=>sc
 | _=>{kind:= .function,names:= [],isGenerator:=false,isCoroutine:=false}
abbrev CX0:CXT:=λv v v v v v=>False
abbrev E0:XK:=λv v v=>False
variable{X:Cx}
def z5T:z1i CX0 X E0:=λv v v v v v v h=>h.elim
structure Fun(K:W.Frag)(x qual:Str)(st:Stmt)(f:AD)(fd:A1):Prop where
 ex:∃(oc:AC)(od:Option AD)(kV aY pm:AC)(an:Option AD)(ag ct:AC)(bW:Array (Option AC)),
  fd=PySem.W.fnOf x qual (z0B st) (jN st) (zj st) .none kV aY pm an ag ct/\K.lookup f=AA (oc,od,.func fd,bW)/\PySem.W.codeIn K ag qual=true
 kp:PySem.W.keepIn K (.ref f)=true
variable{x qual:Str}{st:Stmt}{f:AD}{fd:A1}
section
variable{P:AM}{w:Av}{K:W.Frag}{mg:Str->Option AC}{base:AN}{ps:List Str}
theorem Fun.ok{N:List Str}{k:Nat}{sp:Sp}(F:Fun K x qual st f fd)(S:FnScope N ps (zj st))(len:∀vs H Q E,sp vs H Q E->vs.length=ps.length)
  (e:∀(ag:AC)(A:Aj)(A3:List Env)(s:AE)(H:Hp)(vs:List V)(Q:VK)(E:XK),Room k (A.deeper (envOfC qual (zj st) s.heap.objs.size f ag))->sp vs H Q E->
   ∃t,PSs (z1e CX0 P w K mg base N qual (zj st) f ag A A3 s H E).nox (jN st) t/\t {nx:=λv H'=>Q .non H',rt:=Q} (start N vs) H):FnOk P w K mg base CX0 (k+1) f fd ps sp:=by
 obtain⟨oc,od,kV,aY,pm,an,ag,ct,bW,rfl,d,b⟩:=(F.ex);show z93 d b S len λA A3 s H vs Q E a c=>?_
 obtain⟨t,h,q⟩:=(e ag A A3 s H vs Q E a c);show(t,h.nox,q)
theorem Fun.binds(F:Fun K x qual st f fd)
  (h:∀(kV aY pm:AC)(an:Option AD)(ag ct:AC)(us:List AC),us.length=ps.length->bindArgs (PySem.W.fnOf x qual (z0B st) (jN st) (zj st) .none kV aY pm an ag ct) (us,[])=pure (ps.zip us)):Binds K fd ps []:=by
 obtain⟨oc,od,kV,aY,pm,an,ag,ct,bW,rfl,a,b⟩:=F.ex;show .all (h kV aY pm an ag ct)
def z6n{oc:AC}{od an:Option AD}{bW:Array (Option AC)}{kV aY pm ag ct:AC}(l:K.lookup f=AA (oc,od,.func (PySem.W.fnOf x qual (z0B st) (jN st) (zj st) .none kV aY pm an ag ct),bW))
  (c:PySem.W.codeIn K ag qual=true)(k:PySem.W.keepIn K (.ref f)=true):Fun K x qual st f (PySem.W.fnOf x qual (z0B st) (jN st) (zj st) .none kV aY pm an ag ct):=((oc,od,kV,aY,pm,an,ag,ct,bW,rfl,l,c),k)
end
theorem z3O{A:Aj}{k:Nat}(a:Room k A):A.units+1<cLine:=Nat.lt_of_le_of_lt (Nat.add_le_add_left (by decide:1<=64) _) a.units
theorem pv(i:Nat){pos:Pos}(a:(X.N[i]? =AA x)⁻¹)(b:autoParam (Vis X.env.scope x) z_c._auto_1)(hd:x∣0)
  (c: ~~~((x == ("__classdict__":Str))=false)):PE X (.Name x pos) (z6f i):=z2H a b hd c
variable{A B:Prop}
theorem z8c(h:B):if false=true then A else B:=by
 rw[wW wQ];show h
theorem z8z(h:A):if true=true then A else B:=by
 rw[qc rfl];show h
theorem yZ{c:Prop}[Decidable c](h1:c->A)(h2:¬c->B):if c then A else B:=by
 by_cases h:c
 .rw [qc h];show h1 h
 .rw [wW h];show h2 h
def zw(H H':Hp):Prop:=∀b o,H b=AA o->H' b=AA o
def zw.refl(H:Hp):zw H H:=λv v h=>h
variable{H:Hp}
theorem zw.trans{H1 H2:Hp}(a:zw H H1)(b:zw H1 H2):zw H H2:=λc o h=>b c o (a c o h)
theorem zw.free{H':Hp}(e:zw H H'){l:AD}(h:H' l=Option.none):H l=Option.none:=by
 cases q:H l with
 | none=>rfl
 | some o=>
  rw[e l o q]at h;cases h
theorem zw.seq{K:W.Frag}{H':Hp}{a:AD}{xs:List V}(e:zw H H')(h:SqL K H a xs):SqL K H' a xs:=by
 rcases h with(h|⟨o,h⟩)|h
 .exact .inl (.inl (e _ _ h))
 .exact .inl (.inr (o,e _ _ h))
 .exact .inr h
section
variable{κ:Type}[DecidableEq κ]{kvs:List (κ×V)}
theorem zbk{k:κ}(h:yd kvs k=AB):¬k∈kvs.map (·.1):=by
 intro m;obtain⟨p,a,e⟩:=Q0.mp m;have q:(kvs.any λkv=>decide (kv.1=k))=true:=w1e.mpr (p,a,qd e);rw[z0f,h]at q;show absurd q (by simp)
theorem ze8{k:κ}{v:V}(h:yd kvs k=AA v):k∈kvs.map (·.1):=by
 have q:(kvs.any λkv=>decide (kv.1=k))=true:=by
  rw[z0f,h]
  all_goals rfl
 obtain⟨p,a,e⟩:=w1e.mp q;show Q0.mpr (p,a,Qq e)
theorem z95:∀{l:List κ} {k:κ},l.Nodup->¬k∈l->(l++[k]).Nodup
 | [],k,_,_=>by simp
 | a::r,k,h,b=>by
  obtain⟨h1,h2⟩:=w05.mp h
  change(a::(r++[k])).Nodup
  show w05.mpr (λm=>?_,z95 h2 λm=>b (wF.mpr (QO m)));rcases wA.mp m with q|q
  .exact h1 q
  .exact b (wF.mpr (w0v (wm.mp q).symm))
end
end
section
variable{H:Hp}
theorem zE{p:AD}(h:H p=AB)(o:HO):zw H (upd H p o):=λb u q=>by rw[zn (zr q h)];show q
variable{l:AD}{o:HO}
theorem zw.put{H':Hp}(e:zw H H')(h:H l=AB):zw H (upd H' l o):=λb u q=>by
 rw[zn (zr q h)];show e b u q
def Kp(l:AD)(H H':Hp):Prop:=∀b o,b≠l->H b=AA o->H' b=AA o
def Kp.refl:Kp l H H:=λv v v h=>h
theorem Kp.trans{H1 H2:Hp}(a:Kp l H H1)(b:Kp l H1 H2):Kp l H H2:=λc o n h=>b c o n (a c o n h)
def zw.kp{H':Hp}(e:zw H H'):Kp l H H':=λb o v h=>e b o h
theorem z2M:Kp l H (upd H l o):=λb u n h=>by rw[zn n];show h
variable{n:Nat}
theorem zR(h:n<=1000000):n<=sizeLine:=by
 have:AI=16777216:=Qp
 lia
theorem zH(h:n<=1000000):n<sizeLine:=by
 have:AI=16777216:=Qp
 lia
variable{X:Cx}
theorem jw:kr X (.builtin "isinstance") (λxs H Q=>∃x n t b,xs= [x,.ty n]/\TyOf X.K H x t/\PySem.W.kitOne X.K t (.type n)=AA b/\Q (.bl b) H):=by
 intro A2 s σ H xs us Q I r h;obtain⟨x,n,t,b,rfl,ty,e,q⟩:=(h);obtain⟨u,d,rfl,a,c⟩:=(vals2 r);cases (show d=Value.type n from c);show zaG I a ty e λtk=>(.bl b,H,I.tok _,rfl,q)
variable{K:W.Frag}
theorem yJ{n:String}:PySem.W.kitOne K (.type n) (.type n)=AA true:=by
 unfold PySem.W.kitOne;rw[qc (QI _)]
theorem z1W:PySem.W.kitOne K (.type "int") (.type "str")=AA false:=by kernel_rfl
theorem z5k:PySem.W.kitOne K (.type "str") (.type "tuple")=AA false:=by kernel_rfl
theorem z5s:PySem.W.kitOne K (.type "int") (.type "tuple")=AA false:=by kernel_rfl
theorem z6e:PySem.W.kitOne K (.type "int") (.type "bool")=AA false:=by kernel_rfl
def zbe(K:W.Frag):V->List V->Hp->VK->Prop:=λx vs H Q=>∃l xs y j,x= .ref l/\vs= [y]/\SqL K H l xs/\yD y=true/\xs.all yD=true/\
 (∃z,xs[j]? =AA z/\eqV z y=true)/\(∀m z,m<j->xs[m]? =AA z->eqV z y=false)/\Q (.int ((j:Nat):Int)) H
theorem yi:MtM X "list.index" (zbe X.K):=by
 intro A2 s σ H x vs v us Q I f J h;obtain⟨l,xs,y,j,rfl,rfl,G,p,fs,⟨z,hz,B⟩,i,q⟩:=(h);cases f;obtain⟨u,rfl,E⟩:=(J.one);obtain⟨aa,r,pl,hsz⟩:=(I.list G);obtain⟨⟨cls,dd,data,D⟩,e,hc,n,hd⟩:=(pl.isList);simp only at hc hd;subst hc hd;have hl:=r.length;have hn:=z2G;have L:j<xs.length:=(we.mp hz).1;have C:j<aa.length:=by lia
 show w2c qC (_,e,rfl) PySem.F.entry_list_index (PySem.F.args_list_index_2 _ _)
  (SeqAt.list_indexAt l aa.toArray n dd D u (eqU y) j (by rw[wB];show C) (by lia) ?_ ?_) (e,λw t=>z0K E p r fs w (by simpa using t),(.int ((j:Nat):Int),H,I.tok _,(_,rfl),q))
 .obtain⟨w,b,a⟩:=r.get hz;have d:aa[j]=w:=(we.mp b).2
  change eqU y aa[j]=true
  rw[d,z4l a (qU.mp fs z (qB hz))];show B
 .intro m hm A;have M:m<aa.length:=by rw[wB]at hm;show hm
  have o:m<xs.length:=by lia
  have c:xs[m]? =AA xs[m]:=wb o;obtain⟨w,b,a⟩:=(r.get c);have d:aa[m]=w:=(we.mp b).2
  change eqU y aa[m]=false
  rw[d,z4l a (qU.mp fs _ (qB c))];show i m _ A c
def zeD(K:W.Frag):R2:=λx y H Q=>∃a b xs,x= .ref a/\y= .ref b/\SqL K H a xs/\SqL K H b []/\Q (.bl xs.isEmpty) H
theorem z7P(p:X.A.units+1<cLine):OpR X (compareOp .Eq) (zeD X.K):=by
 intro A2 s σ H x y v u Q I i n h;have c:X.A.units<cLine:=by lia
 obtain⟨a,b,xs,rfl,rfl,ha,f,q⟩:=(h);cases i;cases n;obtain⟨aa,r,pl,hz⟩:=(I.list ha);obtain⟨l,r2,d,_⟩:=(I.list f);have o:l= []:=r2.zero;subst o;cases r with
 | nil=>show SeqAt.eq_listAt (e:=λt=>true) pl.isList d.isList rfl c (λj h1 t=>absurd h1 (by simp)) (.bl true,H,I,by simp[RelV],q)
 | cons r1 r2=>show SeqAt.eq_list_lengthsAt pl.isList d.isList (by simp) c (.bl false,H,I,rfl,q)
variable{c:Bool}
theorem ifT{A B:Prop}(h:c=true)(a:A):if c=true then A else B:=by rw[qc h];show a
theorem ifF{A B:Prop}(h:c=false)(b:B):if c=true then A else B:=by rw[wW (by rw[h];show wQ)];show b
theorem qbl{Q:VK}{a b:Bool}(e:a=b)(q:Q (.bl b) H):Q (.bl a) H:=by rw[e];show q
theorem z83{i j:Int}:decide (V.int i=V.int j)=decide (i=j):=by
 rw[w0t];simp
theorem j7{i j:Str}:decide (V.str i=V.str j)=decide (i=j):=by
 rw[w0t];simp
section
variable{a b:Expr}{ta tb:TE}{pos:Pos}{tA ff:TT}
def zgn(ta tb:TE):TE:=λσ H Q=>ta σ H λx H1=>∃c,x= .bl c/\∃d,(tb σ H1 λy H2=>y= .bl d/\H2=H1)/\Q (.bl (c&&d)) H1
theorem zdZ(ha:PE X a ta)(j:PE X b tb):PE X (.BoolOp .And [a,b] pos) (zgn ta tb):=by
 intro A2 s σ H Q I h;show BoolOp_and (thn (ha A2 s σ H _ I h) ?_);rintro v p ⟨x,H1,i,r1,f⟩;obtain⟨c,rfl,d,l,f⟩:=f;cases r1;show w0k ?_;cases c with
 | true=>
  show BoolOp_one (thn (j A2 p σ H1 _ i l) ?_);rintro v2 q ⟨y,H2,n,r2,e,o⟩;subst e o;show(.bl d,H2,n,r2,by rw[w1V]at f;show f)
 | false=>show(.bl false,H1,i,rfl,by rw[w1C]at f;show f)
def zg6(tA tB:TT):TT:=λσ H Q=>tA σ H λc H1=>∃d,(tB σ H1 λd' H2=>d'=d/\H2=H1)/\Q (c&&d) H1
def zgG(tA tB:TT):TT:=λσ H Q=>tA σ H λc H1=>∃d,(tB σ H1 λd' H2=>d'=d/\H2=H1)/\Q (c||d) H1
theorem z3k(ha:PT X a tA)(l:PT X b ff):PT X (.BoolOp .And [a,b] pos) (zg6 tA ff):=by
 intro A2 s σ H Q I h;show isTrue_and (thn (ha A2 s σ H _ I h) ?_);rintro c q ⟨H1,i,d,o,f⟩;cases c with
 | true=>
  show isTrue_and (thn (l A2 q σ H1 _ i o) ?_);rintro n r ⟨H2,j,e,p⟩;subst e p;rw[w1V]at f;cases n with
  | true=>show isTrue_and_nil (H2,j,f)
  | false=>show(H2,j,f)
 | false=>show(H1,i,by rw[w1C]at f;show f)
theorem z1w(ha:PT X a tA)(l:PT X b ff):PT X (.BoolOp .Or [a,b] pos) (zgG tA ff):=by
 intro A2 s σ H Q I h;show isTrue_or (thn (ha A2 s σ H _ I h) ?_);rintro c q ⟨H1,i,d,o,f⟩;cases c with
 | false=>
  show isTrue_or (thn (l A2 q σ H1 _ i o) ?_);rintro n r ⟨H2,j,e,p⟩;subst e p;rw[Bool.false_or]at f;cases n with
  | false=>show isTrue_or_nil (H2,j,f)
  | true=>show(H2,j,f)
 | true=>show(H1,i,by rw[Bool.true_or]at f;show f)
def zbJ(c:TT)(t u:TS):TS:=λD σ H=>∃J:St->Hp->Prop,(c σ H λb H1=>if b=true then t {D with nx:=J} σ H1 else u {D with nx:=J} σ H1)/\∀σ' H',J σ' H'->D.nx σ' H'
theorem kP{c:Expr}{a b:List Stmt}{tc:TT}{t u:TS}(hc:PT X c tc)(ha:PSs X a t)(n:PSs X b u):PS X (.If c a b pos) (zbJ tc t u):=by
 intro A2 s σ H D I h;obtain⟨J,h,o⟩:=h;have fin:∀(f:Flow)(s':AE),SP X A2 {D with nx:=J} f s'->SP X A2 D f s':=λf s' q=>by
  cases f with
  | next=>obtain⟨σ',H',l,q⟩:=q;show(σ',H',l,o _ _ q)
  | ret v=>show q
  | brk=>show q
  | cont=>show q
 show wpAny_If (thn (hc A2 s σ H _ I h) ?_);rintro d j ⟨H1,e,i⟩;cases d with
 | true=>show thn (ha A2 j σ H1 _ e i) fin
 | false=>show thn (n A2 j σ H1 _ e i) fin
end
def z0D{c:TT}{tb:TS}{D:Ends}{σ:St}(W:Nat->St->Hp->Prop)(m:Nat)(h0:W m σ H)
  (hs:∀m σ H,W m σ H->c σ H λb H1=>if b=true then∃N:St->Hp->Prop,(∀σ' H',N σ' H'->∃a,a<m/\W a σ' H')/\tb {D with nx:=N,ct:=N,bk:=D.nx} σ H1 else D.nx σ H1):z1G c tb D σ H:=
 (W,(m,h0),hs)
structure Kn(P:AM)(w:Av)(K:W.Frag)(mg:Str->Option AC)(base:AN)(k:Nat)(x:Str)(ps:List Str)(sp:Sp):Prop where
 ex:∃(f:AD)(fd:A1),FnOk P w K mg base CX0 k f fd ps sp/\mg x=AA (.ref f)/\PySem.W.keepIn K (.ref f)=true/\Binds K fd ps []
theorem z75{k:Nat}{x:Str}{ps:List Str}{sp:Sp}{e:Expr}{es:List Expr}{t:TA}{p pos:Pos}(C:Kn X.prog X.w X.K X.mg X.base k x ps sp)(b:Room k X.A)(d:Gl X x)(ha:PA X (e::es) t)
  (c:x∣0)(he:e∣es)(i:((backTo pos (AJ es X.env)).any (·.1)=false)⁻¹):
  PE X (.Call (.Name x p) (e::es) [] pos) (z94 sp [] E0 t):=by
 obtain⟨f,fd,F,hm,h,a⟩:=(C.ex);show z9F F b d hm h a .nil z5T ha c he i
variable{α:Type}
theorem z37(gs:List α)(x:α):(gs++[x])[(gs++[x]).length-1]? =AA x:=by simp
def z6P{l:List α}(h:l≠ []):∃gs x,l=gs++[x]:=(l.dropLast,l.getLast h,(List.dropLast_concat_getLast h).symm)
variable{x:α}{r:List α}
def zL:atI (x::r) 0=AA x:=zZ (j:=0) rfl
def jc{y:α}:atI (x::y::r) 1=AA y:=zZ (j:=1) rfl
def jD{y z:α}:atI (x::y::z::r) 2=AA z:=zZ (j:=2) rfl
theorem z9T{xs:List α}{i:Int}{v:α}(h0:0<=i)(h:xs[i.toNat]? =AA v):atI xs i=AA v:=by
 have e:i=((i.toNat:Nat):Int):=by lia
 rw[e];show zZ h
theorem zY(ss:List Str):(ss.map V.str).all yD=true:=by
 rw[qU];intro x a;obtain⟨s,_,rfl⟩:=Q0.mp a
 rfl
theorem jn{ss:List Str}{s:Str}(h:s∈ss):(∃z,(ss.map V.str)[ss.idxOf s]? =AA z/\eqV z (.str s)=true)/\∀m z,m<ss.idxOf s->(ss.map V.str)[m]? =AA z->eqV z (.str s)=false:=by
 have a:ss.idxOf s<ss.length:=qF.mpr h;show((.str s,?_,?_),λm z hm hz=>?_)
 .rw [wK,wb a,List.getElem_idxOf a]
  rfl
 .show(s == s)=true
  show QI s
 .have b:m<ss.length:=by lia
  rw[wK,wb b]at hz;cases hz
  change(ss[m] == s)=false
  have h2:m<ss.findIdx (· == s):=hm;show List.not_of_lt_findIdx h2
end
section
variable{A:Aj}{R:Result->AE->Prop}{s:AE}{bw iter:Expr}{bu:List Expr}{scope:Scope}{pos:Pos}{env:Env}
theorem z6D{prog:AM}{w:Av}{target:Expr}{it q:AC}(I:Nat->AE->Prop)
  (turn:∀n s,I n s->AT (AV prog w) A (pyNext it) (λr t=>match r with
   | none=>R (.ok .next) t
   | some v=>AT (AV prog w) A (letOwnedTupleGo target it v) (λk a=>AT (AV prog w) A (assign target env v) (λk i=>
     AT (AV prog w) A (forIn bu true λc r=>if r=true then do let ok<-isTrue c env (eval c env);pure (ForInStep.yield ok)else pure (ForInStep.yield r)) (λok b=>
      if ok=true then AT (AV prog w) A (eval bw env) (λx d=>
       AT (AV prog w) A (call (.builtin "list.append") [q,x]) (λk j=>∃m,m<n/\I m j) (notedBy (AV prog w) A env λe s'=>R (.error e) s') d) (notedBy (AV prog w) A env λe s'=>R (.error e) s') b
      else∃m,m<n/\I m b) (notedBy (AV prog w) A env λe s'=>R (.error e) s') i) (notedBy (AV prog w) A env λe s'=>R (.error e) s') a) (notedBy (AV prog w) A env λe s'=>R (.error e) s') t) (notedBy (AV prog w) A env λe s'=>R (.error e) s') s)
  (n:Nat) (h:I n s):
  codeAny (AV prog w) A (.compLoop (.ListComp bw [(target,iter,bu,0)] scope pos) 0 it q env) R s:=by
 show codeAny_loop rfl I (λn s y=>?_) n h
 change AT _ A ((compTurn (.ListComp bw [(target,iter,bu,0)] scope pos) 0 it q env).onRaise (λx=>do noteFrame x env;theTreesLotGoes x)) _ _ s
 show wpAny_noted ?_;rw[compTurn_list];show wu (wpAny_standAt (wu (qQ (turn n s y) (λr t u=>?_) λk k h'=>h')));cases r with
 | none=>show wN u
 | some v=>
  show wu (qQ u (λk a l=>?_) λk k h'=>h');show wu (qQ l (λk i z=>wu (qQ z (λok b f=>?_) λk k h'=>h')) λk k h'=>h');cases ok with
  | false=>show wN (rfl,f)
  | true=>
   show wu (wu (qQ f (λx d o=>wu (qQ o (λk j p=>wN (wN (rfl,p))) λk k h'=>h')) λk k h'=>h'))
noncomputable def yV(env:Env):List (Str×AL)->List (Str×AD)->List (Str×AD)
 | [],a=>a
 | (n,k)::r,a=>yV env r (if k == .free then(n,(env.cells.lookup n).getD 0)::a else a)
theorem z9A{env:Env}(f:Str×AL->List (Str×AD)->Sem (ForInStep (List (Str×AD))))
  (i:∀name kind cells,f (name,kind) cells=if kind == .free then(do let a<-cellOf env name;pure (.yield ((name,a)::cells)))else pure (.yield cells)):
  ∀(names:List (Str×AL))(b:List (Str×AD)),(∀y∈names,y.2= .free->∃c,env.cells.lookup y.1=AA c)->forIn names b f=(pure (yV env names b):Sem (List (Str×AD)))
 | [],b,_=>by rw[List.forIn_nil];rfl
 | (n,k)::r,b,h=>by
  rw[List.forIn_cons,i];have j:=λb=>z9A f i r b λy l=>h y (q5 _ l)
  unfold yV;cases hk:k == NameKind.free with
  | true=>
   obtain⟨c,hc⟩:=h (n,k) qI (Qb.mp hk);have e:cellOf env n=(pure c:Sem AD):=by
    unfold cellOf;have d:env.cells.lookup n=AA c:=hc;rw[d]
   have d:env.cells.lookup n=AA c:=hc;simp only[w1q,e,pure_bind,d,Option.getD_some];show j _
  | false=>
   simp only[w08,w0A,pure_bind];show j _
theorem z07(h:∀y∈scope.names,y.2= .free->∃c,env.cells.lookup y.1=AA c):closureFor scope env=pure (yV env scope.names []):=by
 simp only[closureFor];rw[z9A (env:=env) _ (λname kind cells=>by cases hk:kind == NameKind.free<;>simp[hk]) scope.names [] h]
 rfl
theorem z2j{env:Env}:∀(names:List (Str×AL))(b:List (Str×AD)),(∀y∈names,y.2= .free->∃c,env.cells.lookup y.1=AA c)->(∀y c,b.lookup y=AA c->env.cells.lookup y=AA c)->
  ∀y c,(yV env names b).lookup y=AA c->env.cells.lookup y=AA c
 | [],_,_,ha=>ha
 | (n,k)::r,b,h,ha=>by
  unfold yV;show z2j r _ (λy a=>h y (q5 _ a)) λy c e=>?_
  cases hk:k == NameKind.free with
  | true=>
   rw[hk,qc rfl,qM]at e;obtain⟨f,hc⟩:=h (n,k) qI (Qb.mp hk);have d:env.cells.lookup n=AA f:=hc;cases a:y == n with
   | true=>
    rw[a]at e;rw[d]at e;cases e;rw[Qb.mp a];show d
   | false=>
    rw[a]at e;show ha y c e
  | false=>
   rw[hk,wW wQ]at e;show ha y c e
theorem z3a{env:Env}:∀(names:List (Str×AL))(a:List (Str×AD))(y:Str),((y,NameKind.free)∈names\/∃c,a.lookup y=AA c)->∃c,(yV env names a).lookup y=AA c
 | [],_,y,h=>by
  rcases h with h|h
  .cases h
  .exact h
 | (n,k)::r,a,y,h=>by
  unfold yV;show z3a r _ y ?_;rcases h with h|⟨c,h⟩
  .rcases wF.mp h with e|h
   .cases e;show .inr ?_;simp[qM]
   .exact .inl h
  .refine .inr ?_;by_cases hk:(k == NameKind.free)=true
   .rw [qc hk,qM];cases y == n with
    | true=>show(_,rfl)
    | false=>show(c,h)
   .rw [wW hk];show(c,h)
theorem z4d:∀(names:List (Str×AL))(h:AN)(d:List (Str×AD))(y:Str)(c:AD),(cellsFrom h.objs.size names d).lookup y=AA c->
  ((pushCells h names).IsCell c AB/\h.objs.size<=c/\(y,NameKind.cell)∈names)\/d.lookup y=AA c
 | [],_,_,_,_,e=> .inr e
 | (n,k)::r,h,d,y,c,e=>by
  unfold cellsFrom at e;unfold pushCells;by_cases hk:(k == NameKind.cell)=true
  .rw [qc hk]at e ⊢;have f:(cellsFrom (h.push {cls:= .type "cell",data:= .cell AB}).objs.size r ((n,h.objs.size)::d)).lookup y=AA c:=by rw[Qi];show e
   rcases z4d r (h.push {cls:= .type "cell",data:= .cell AB}) ((n,h.objs.size)::d) y c f with⟨a1,a2,a3⟩|a
   .rw [Qi]at a2;show .inl (a1,by lia,q5 _ a3)
   .rw [qM]at a;cases hy:y == n with
    | true=>
     rw[hy]at a;cases a;show .inl (Heap.IsCell.keeps (_,wX _ rfl,rfl) λb o q=>w0Y r _ b o q,wy _,?_);rw[Qb.mp hy,Qb.mp hk];show qI
    | false=>
     rw[hy]at a;show .inr a
  .rw [wW hk]at e ⊢;rcases z4d r h d y c e with⟨a1,a2,a3⟩|a
   .exact .inl (a1,a2,q5 _ a3)
   .exact .inr a
theorem z6L:∀(names:List (Str×AL))(n:Nat)(a:List (Str×AD))(y:Str),(y,NameKind.cell)∉names->(cellsFrom n names a).lookup y=a.lookup y
 | [],_,_,_,_=>rfl
 | (m,k)::r,n,a,y,h=>by
  unfold cellsFrom;by_cases hk:(k == NameKind.cell)=true
  .rw [qc hk,z6L r (n+1) _ y λz=>h (q5 _ z),qM];have:(y == m)=false:=w0r.mpr λz=>h (by rw[z,Qb.mp hk];show qI)
   rw[this]
  .rw [wW hk];show z6L r n a y λz=>h (q5 _ z)
theorem z8Y:∀(names:List (Str×AL))(n:Nat)(a:List (Str×AD))(y:Str),((y,NameKind.cell)∈names\/∃c,a.lookup y=AA c)->∃c,(cellsFrom n names a).lookup y=AA c
 | [],_,_,_,h=>by
  rcases h with h|h
  .cases h
  .exact h
 | (m,k)::r,n,a,y,h=>by
  unfold cellsFrom;by_cases hk:(k == NameKind.cell)=true
  .rw [qc hk];show z8Y r (n+1) _ y ?_;rcases h with h|⟨c,h⟩
   .rcases wF.mp h with e|h
    .cases e;show .inr (n,by simp[qM])
    .exact .inl h
   .refine .inr ?_;rw[qM];cases y == m with
    | true=>show(_,rfl)
    | false=>show(c,h)
  .rw [wW hk];show z8Y r n a y ?_;rcases h with h|h
   .rcases wF.mp h with e|h
    .cases e;show absurd rfl hk
    .exact .inl h
   .exact .inr h
theorem z89:∀(names:List (Str×AL))(n:Nat)(a:List (Str×AD)),(∀y c,a.lookup y=AA c->c<n)->(∀y z c,a.lookup y=AA c->a.lookup z=AA c->y=z)->
  ∀y z c,(cellsFrom n names a).lookup y=AA c->(cellsFrom n names a).lookup z=AA c->y=z
 | [],_,_,_,hi=>hi
 | (m,k)::r,n,a,f,hi=>by
  unfold cellsFrom;by_cases hk:(k == NameKind.cell)=true
  .rw [qc hk];show z89 r (n+1) _ (λy c e=>?_) λy z c d b=>?_
   .rw [qM]at e;cases hy:y == m with
    | true=>rw[hy]at e;cases e;show w0C n
    | false=>rw[hy]at e;show Qc (f y c e)
   .rw [qM]at d b;cases hy:y == m with
    | true=>
     rw[hy]at d;cases d;cases hz:z == m with
     | true=>rw[Qb.mp hy,Qb.mp hz]
     | false=>rw[hz]at b;show absurd (f z n b) (QF _)
    | false=>
     rw[hy]at d;cases hz:z == m with
     | true=>rw[hz]at b;cases b;show absurd (f y n d) (QF _)
     | false=>rw[hz]at b;show hi y z c d b
  .rw [wW hk];show z89 r n a f hi
theorem z3M{M:Model}{E:AC->AE->Prop}{globals:AD}{a:List (Str×AD)}{qual:Str}{Q:Env->AE->Prop}
  (b:Q {scope:=scope,locals:=s.heap.objs.size,globals:=globals,cells:=cellsFrom (s.heap.push {cls:= .type "dict",data:= .dict #[]}).objs.size scope.names a,qual:=qual,func:=AB,code:=env.code,frame:=env.frame,builtins:=env.builtins}
   {s with heap:=pushCells (s.heap.push {cls:= .type "dict",data:= .dict #[]}) scope.names}):
  AT M A (newFunctionEnv scope globals a [] qual AB .none (AA env)) Q E s:=by
 simp only[newFunctionEnv,Option.isSome_some,w1q];show wu (wpAny_alloc ?_);show wu (wpAny_layCells _ (λname kind cells=>by cases mY:kind == NameKind.cell<;>simp[mY]) _ _ _ _ ?_);rw[List.forIn_nil];show wu (wN (wN b))
noncomputable abbrev j9(X:Cx)(scope:Scope)(a:List Str)(C:AD)(cells:List (Str×AD))(s₀:AE)(H₀:Hp)(ex:List AD)(A2:List (AD×Obj)):Cx:=
 {prog:=X.prog,w:=X.w,K:=X.K,mg:=X.mg,base:=X.base,A:=X.A,N:=a,s₀:=s₀,H₀:=H₀,env:=compEnvC scope cells C X.env,A3:=X.stack,stack:=X.stack,ex:=ex,fn:=λy=>decide ((y,NameKind.cell)∈scope.names),calm:=X.calm,pn:=X.pn++A2,xe:=λv v=>False}
structure CompSc(X:Cx)(scope:Scope)(x:Str)(fr:List Str)(ix:List Nat):Prop where
 kind:scope.kind= .function
 names:∀y∈scope.names,y.2= .local->scope.names.lookup y.1=AA .local
 uniq:(scope.names.map (·.1)).Nodup
 xloc:scope.names.lookup x=AA .local\/scope.names.lookup x=AA .cell
 clo:∀y∈scope.names,y.2= .free->X.env.kindOf y.1=AA .cell\/X.env.kindOf y.1=AA .free
 free:∀(k:Nat)(y:Str),fr[k]? =AA y->∃j,ix[k]? =AA j/\X.N[j]? =AA y/\scope.names.lookup y=AA .free
 nd:(x::fr).Nodup
 len:fr.length=ix.length
noncomputable def sub(σ:St)(ix:List Nat)(x:Option V):St:=x::ix.map λj=>(σ[j]?).getD AB
def z7Y(X:Cx)(bu:List Expr)(t:TT):Prop:=
 ∀(A2:List (AD×Obj))(s:AE)(σ:St)(H:Hp)(Q:Bool->Hp->Prop),Inv X A2 σ H s->t σ H Q->
  AT (AV X.prog X.w) X.A (forIn bu true λc r=>if r=true then do let ok<-isTrue c X.env (eval c X.env);pure (ForInStep.yield ok)else pure (ForInStep.yield r)) (TP X A2 σ Q) X.xe s
def z7W:TT:=λv H Q=>Q true H
variable{X:Cx}
def jm:z7Y X [] z7W:=λv v v H v I h=>wpAny_tests_nil (H,I,h)
def z2o{c:Expr}{t:TT}(h:PT X c t):z7Y X [c] t:=λA2 s σ H Q I q=>wpAny_tests_one (h A2 s σ H Q I q)
theorem yr{env:Env}:∀{names:List (Str×AL)} {y:Str} {k:AL},names.lookup y=AA k->
  (names.map λ(n,k)=>if(k == NameKind.free&&env.scope.kind == .function&&env.kindOf n == AA .cell)then(n,NameKind.cell)else(n,k)).lookup y=AA (if(k == NameKind.free&&env.scope.kind == .function&&env.kindOf y == AA .cell)then NameKind.cell else k)
 | [],_,_,h=>by simp at h
 | (n,k')::r,y,k,h=>by
  rw[qM]at h;rw[qK];cases hy:y == n with
  | true=>
   rw[hy]at h;cases h;have e:y=n:=Qb.mp hy;subst e;by_cases hc:(k' == NameKind.free&&env.scope.kind == .function&&env.kindOf y == AA .cell)=true
   .simp only [hc,w1q,qM,QI]
   .simp only [hc,w0A,qM,QI];simp
  | false=>
   rw[hy]at h;have a:=yr (env:=env) (names:=r) h;by_cases hc:(k' == NameKind.free&&env.scope.kind == .function&&env.kindOf n == AA .cell)=true
   .simp only [hc,w1q,qM,hy];show a
   .show List.lookup y ((if(k' == NameKind.free&&env.scope.kind == .function&&env.kindOf n == AA .cell)=true then(n,NameKind.cell)else(n,k'))::_)=_
    rw[wW hc,qM,hy];show a
theorem z5D:∀{names:List (Str×AL)} {y:Str} {k:AL},
  (names.map λ(n,k)=>if(k == NameKind.free&&env.scope.kind == .function&&env.kindOf n == AA .cell)then(n,NameKind.cell)else(n,k)).lookup y=AA k->∃k',names.lookup y=AA k'/\k=(if(k' == NameKind.free&&env.scope.kind == .function&&env.kindOf y == AA .cell)then NameKind.cell else k')
 | names,y,k,h=>by
  cases e:names.lookup y with
  | some k'=>
   have:=yr (env:=env) e;rw[this]at h;show(k',rfl,(Option.some.inj h).symm)
  | none=>
   exfalso
   induction names with
   | nil=>simp at h
   | cons p r a=>
    obtain⟨n,k'⟩:=p;rw[qM]at e;cases hy:y == n with
    | true=>rw[hy]at e;cases e
    | false=>
     rw[hy]at e;show a ?_ e;rw[qK]at h;by_cases hc:(k' == NameKind.free&&env.scope.kind == .function&&env.kindOf n == AA .cell)=true
     .simpa only [hc,w1q,qM,hy]using h
     .simpa [hc,qM,hy]using h
def lookup_mem{α:Type}{l:List (Str×α)}{n:Str}{c:α}(h:l.lookup n=AA c):(n,c)∈l:=qZ h
theorem z8d:∀(names:List (Str×AL))(n:Nat)(a:List (Str×AD))(y:Str)(c:AD),(y,NameKind.cell)∈names->(cellsFrom n names a).lookup y=AA c->n<=c
 | [],_,_,_,_,h,_=>by cases h
 | (m,k)::r,n,a,y,c,h,e=>by
  unfold cellsFrom at e;by_cases hr:(y,NameKind.cell)∈r
  .by_cases hk:(k == NameKind.cell)=true
   .rw [qc hk]at e;show Nat.le_of_succ_le (z8d r (n+1) _ y c hr e)
   .rw [wW hk]at e;show z8d r n a y c hr e
  .rcases wF.mp h with q|q
   .cases q;rw[qc (QI _),z6L r (n+1) _ _ hr,qM,QI]at e;cases e;show wy _
   .exact absurd q hr
theorem z5F:∀{names:List (Str×AL)} {y:Str} {k k':AL},(names.map (·.1)).Nodup->names.lookup y=AA k->(y,k')∈names->k=k'
 | [],_,_,_,_,h,_=>by simp at h
 | (n,kk)::r,y,k,k',hn,h,hm=>by
  rw[qK]at hn;obtain⟨h1,h2⟩:=w05.mp hn;rw[qM]at h;cases hy:y == n with
  | true=>
   rw[hy]at h;cases h;rcases wF.mp hm with e|hm
   .cases e;rfl
   .exact absurd (Q0.mpr (_,hm,rfl)) (by rw[Qb.mp hy];show h1)
  | false=>
   rw[hy]at h;rcases wF.mp hm with e|hm
   .cases e;rw[QI]at hy;cases hy
   .exact z5F h2 h hm
variable{A2:List (AD×Obj)}{H:Hp}{x:Str}{fr:List Str}{fp:List AD}
section
variable{σ:St}{ix:List Nat}
noncomputable abbrev jt:Obj:={cls:= .type "list",data:= .seq ([]:List AC).toArray}
noncomputable abbrev z0h:Obj:={cls:= .type "dict",data:= .dict #[]}
theorem zd5{σ4:St}{d:Hp}{f:AE}{cells:List (Str×AD)}{N:List Str}{C D:AD}{pl:List (AD×Obj)}{aa:List AC}{ys:List V}{k:Nat}{h':AN}(I:Inv X A2 σ H s)(K:∀b∈fp,z3Y X A2 H b)
  (j:Inv (j9 X scope N C cells s H fp A2) pl σ4 d f)(x:s.heap.objs.size<=D)(B:s.heap.objs.size<=C)(A:D≠C)(p:d D=AB)(M:f.heap.get? D=AA {cls:= .type "list",data:= .seq aa.toArray k})(r:zS ys aa)(hz:ys.length<=AI)
  (y:Heap.SameBut C f.heap h'):Inv X A2 σ (upd d D (.lst ys)) {f with heap:=h'}:=by
 have u:Un (frs X.stack) fp H d s.heap f.heap:=j.base;have ne:∀b o,s.heap.get? b=AA o->b≠C/\b≠D:=λb o e=>by
  have:=wI e;show(wS (wM this B),wS (wM this x))
 have l:H D=none:=I.hok.fresh x;have t:d C=none:=j.free;have i:∀b,b≠C->h'.get? b=f.heap.get? b:=λb a=>y.2 b a
 have L:Un (frs X.stack) fp H (upd d D (.lst ys)) s.heap h':=by
  show(λb o e n a h=>?_,λb o e n a h=>?_,λb o e n h=>?_,λb o e h=>?_,λb xs e=>?_,λb o w e=>?_,λb ps e=>?_)
  .rw [i b (ne b o e).1];show u.keep b o e n a h
  .rw [i b (ne b o e).1];show u.slot b o e n a h
  .rw [zn (ne b o e).2];show u.free b o e n h
  .rw [i b (ne b o e).1];show u.there b o e h
  .rw [zn (zr e l)];show u.tups b xs e
  .rw [zn (zr e l)];show u.frzs b o w e
  .rw [zn (zr e l)];show u.tbls b ps e
 have hok:HOk X.prog X.w (upd d D (.lst ys)) h':=λb o e=>by
  by_cases a:b=D
  .subst a;rw[zm]at e;cases e;show(hz,aa,k,r,(i b A).trans M)
  .rw [zn a]at e;show(j.hok b o e).stay (λc v hc q=>?_) (λc q=>?_) λc xs q=>?_
   .have E:c≠C:=by
     rintro rfl;rcases hc with z|z
     .rw [<-z,t]at e;cases e
     .rw [t]at z;cases z
    show(i c E).trans q
   .rw [zn (zr q p)];show q
   .rw [zn (zr q p)];show q
 show I.call' (s':={f with heap:=h'}) (ch:=fp) j.os L hok j.bare λb a=>by
  obtain⟨_,f1,_,F,G,J⟩:=K b a;show(F,f1,G,J)
end
def z0p(J:It)(σ:St)(ix:List Nat)(tc:TT)(te:TE)(Q:List V->Hp->Prop)(H1:Hp):Prop:=
 ∃W:Nat->Nat->List V->Hp->Prop,(∃m,W 0 m [] H1)/\∀i m ys H,W i m ys H->ys.length<AI/\
  ((J.stop i H/\Q ys H)\/(J.go i H/\∃(e:V->Hp->Prop)(d:Hp->Prop),(∀y c,e y c->∃a,a<m/\W (i+1) a (ys++[y]) c)/\(∀H2,d H2->∃a,a<m/\W (i+1) a ys H2)/\
   ∀x H',J.yld i H x H'->tc (sub σ ix (AA x)) H' λb H2=>if b=true then te (sub σ ix (AA x)) H2 e else d H2))
structure CompScG(X:Cx)(scope:Scope)(xs:List Str)(fr:List Str)(ix:List Nat):Prop where
 kind:scope.kind= .function
 names:∀y∈scope.names,y.2= .local->scope.names.lookup y.1=AA .local
 uniq:(scope.names.map (·.1)).Nodup
 clo:∀y∈scope.names,y.2= .free->X.env.kindOf y.1=AA .cell\/X.env.kindOf y.1=AA .free
 free:∀(k:Nat)(y:Str),fr[k]? =AA y->∃j,ix[k]? =AA j/\X.N[j]? =AA y/\scope.names.lookup y=AA .free
 nd:(xs++fr).Nodup
 len:fr.length=ix.length
noncomputable def z7b(σ:St)(ix:List Nat)(a:List (Option V)):St:=a++ix.map λj=>(σ[j]?).getD AB
noncomputable def z7n(sx:Scope)(NX:List Str)(scope:Scope)(xs fr:List Str)(ix:List Nat):Bool:=
 (scope.kind == .function)&&scope.names.all (λy=>y.2 != .local||scope.names.lookup y.1 == AA .local)&&decide ((scope.names.map (·.1)).Nodup) &&
 scope.names.all (λy=>y.2 != .free||(sx.names.lookup y.1 == AA .cell||sx.names.lookup y.1 == AA .free)) &&
 decide (fr.length=ix.length)&&decide ((xs++fr).Nodup)&&(fr.zip ix).all λp=>NX[p.2]? == AA p.1&&scope.names.lookup p.1 == AA .free
variable{xs:List Str}
theorem CompScG.of{sx:Scope}{NX:List Str}{ix:List Nat}(hs:X.env.scope=sx)(j:X.N=NX)(h:z7n sx NX scope xs fr ix=true):CompScG X scope xs fr ix:=by
 simp only[z7n,qX,decide_eq_true_eq,Qb,qU,Bool.or_eq_true,bne_iff_ne,ne_eq]at h;obtain⟨⟨⟨⟨⟨⟨h1,h2⟩,l⟩,d⟩,c⟩,f⟩,i⟩:=h;show(h1,λy b a=>?_,l,λy b a=>?_,λk y e=>?_,f,c)
 .rcases h2 y b with q|q
  .exact absurd a q
  .exact q
 .show X.env.scope.names.lookup y.1=_\/X.env.scope.names.lookup y.1=_
  rw[hs];rcases d y b with q|q
  .exact absurd a q
  .exact q
 .have a:k<ix.length:=by rw[<-c];show(we.mp e).1
  have hz:(fr.zip ix)[k]? =AA (y,ix[k]):=by
   rw[List.getElem?_zip_eq_some];show(e,wb a)
  obtain⟨a1,a2⟩:=i _ (qB hz);show(ix[k],wb a,by rw[j];show a1,a2)
section
variable{σ:St}{ix:List Nat}
theorem z8M(S:CompScG X scope xs fr ix)(I:Inv X A2 σ H s)(F:∀b∈fp,z3Y X A2 H b)(U:∀b∈fp,b<s.heap.objs.size):
  Inv (j9 X scope (xs++fr) (s.heap.push jt).objs.size (cellsFrom ((s.heap.push jt).push z0h).objs.size scope.names (yV X.env scope.names [])) s H fp A2) [] (z7b σ ix (List.replicate xs.length AB)) H
   {s with heap:=pushCells ((s.heap.push jt).push z0h) scope.names}:=by
 have Y:∀y∈scope.names,y.2= .free->∃c,X.env.cells.lookup y.1=AA c:=λy l hk=>I.ok.has y.1 (S.clo y l hk)
 have A:∀y c,(yV X.env scope.names []).lookup y=AA c->X.env.cells.lookup y=AA c:=z2j scope.names [] Y λy c e=>by simp at e
 have E:∀y,(y,NameKind.free)∈scope.names->∃c,(yV X.env scope.names []).lookup y=AA c:=λy l=>z3a scope.names [] y (.inl l)
 have cb:∀y c,(yV X.env scope.names []).lookup y=AA c->c<s.heap.objs.size:=λy c e=>by
  obtain⟨v,q⟩:=I.cell y c (A y c e);show q.lt
 have x:(s.heap.push jt).objs.size=s.heap.objs.size+1:=Qi ..;have G:((s.heap.push jt).push z0h).objs.size=s.heap.objs.size+2:=by rw[Qi,x]
 have up:∀b o,s.heap.get? b=AA o->(pushCells ((s.heap.push jt).push z0h) scope.names).get? b=AA o:=λb o e=>w0Y _ _ b o (wo _ (wo _ e))
 have D:∀y c,(cellsFrom ((s.heap.push jt).push z0h).objs.size scope.names (yV X.env scope.names [])).lookup y=AA c->
   ((pushCells ((s.heap.push jt).push z0h) scope.names).IsCell c AB/\s.heap.objs.size+2<=c/\(y,NameKind.cell)∈scope.names)\/X.env.cells.lookup y=AA c:=λy c e=>by
  rcases z4d scope.names ((s.heap.push jt).push z0h) (yV X.env scope.names []) y c e with⟨a1,a2,a3⟩|a
  .rw [G]at a2;show .inl (a1,a2,a3)
  .exact .inr (A y c a)
 have ok:(j9 X scope (xs++fr) (s.heap.push jt).objs.size (cellsFrom ((s.heap.push jt).push z0h).objs.size scope.names (yV X.env scope.names [])) s H fp A2).Ok:=by
  show(I.ok.mod,S.kind,I.ok.glob,I.ok.blt,?_,?_,?_,?_,I.ok.hd,I.ok.frames,.inl rfl,?_,I.bs,wG I.ok.bsz I.sz,?_,?_,I.stack,I.stkFree)
  .show s.heap.objs.size<=(s.heap.push jt).objs.size
   rw[x]
   lia
  .exact z89 scope.names _ _ (λy c e=>by rw[G];show wM (cb y c e) (w1f _ 2)) λy z c t f=>I.ok.inj y z c (A y c t) (A z c f)
  .intro y l;show z8Y scope.names _ _ y ?_;have gm:(relabel scope X.env).names.lookup y=AA .cell\/(relabel scope X.env).names.lookup y=AA .free:=l;rcases gm with gm|gm
   .obtain⟨k',e,h⟩:=z5D gm;by_cases hc:(k' == NameKind.free&&X.env.scope.kind == .function&&X.env.kindOf y == AA .cell)=true
    .rw [qX,qX]at hc;have f:=Qb.mp hc.1.1;subst f;show .inr (E y (lookup_mem e))
    .rw [wW hc]at h;subst h;show .inl (lookup_mem e)
   .obtain⟨k',e,h⟩:=z5D gm;by_cases hc:(k' == NameKind.free&&X.env.scope.kind == .function&&X.env.kindOf y == AA .cell)=true
    .rw [qc hc]at h;cases h
    .rw [wW hc]at h;subst h;show .inr (E y (lookup_mem e))
  .intro y c l e;have hm:(y,NameKind.cell)∈scope.names:=Qq l;have:=z8d scope.names _ _ y c hm e
   change s.heap.objs.size<=c
   rw[G]at this
   lia
  .intro b r;have L:=U b r;show(?_,λy c e=>?_)
   .show b≠(s.heap.push jt).objs.size
    rw[x];show wS (Qc L)
   .rcases D y c e with⟨_,a2,_⟩|a
    .exact Qv (wM L (wG (w1f _ 2) a2))
    .exact(F b r).2.2.2.2.1 y c a
  .intro b o e r;obtain⟨_,_,_,f3,_⟩:=(F b r);rcases f3 with f3|f3
   .exact I.ok.noex b o e f3
   .exact absurd (wM (wI e) (wG I.ok.bsz f3)) (QF _)
  .intro b r z;obtain⟨_,f1,f2,_⟩:=(F b r);rcases wF.mp (I.stkSub b z)with e|e
   .exact f1 e
   .exact f2 e
 show(ok,rfl,I.bare,Un.kept up,(_,(Heap.Ns.new (s.heap.push jt) (.type "dict")).keeps (w0Y _ _),λi y v t f e3=>?_),λy c e=>?_,?_,λy c e=>?_,λp R=>?_,I.hok.kept up,?_)
 .have f:(List.replicate xs.length AB++ix.map λj=>(σ[j]?).getD AB)[i]? =AA (AA v):=f;have t:(xs++fr)[i]? =AA y:=t;by_cases fT:i<xs.length
  .rw [List.getElem?_append_left (by rw[w0E];show fT),List.getElem?_replicate,qc fT]at f;cases f
  .obtain⟨k,rfl⟩:∃k,i=xs.length+k:=(i-xs.length,by lia)
   have M:fr[k]? =AA y:=by rw[QA (by lia),Nat.add_sub_cancel_left]at t;show t
   have K:(ix.map λj=>(σ[j]?).getD AB)[k]? =AA (AA v):=by rw[QA (by rw[w0E];lia),w0E,Nat.add_sub_cancel_left]at f;show f
   obtain⟨j,T,Q,C⟩:=(S.free k y M);rw[wK,T]at K;have B:(σ[j]?).getD AB=AA v:=Option.some.inj K;have N:σ[j]? =AA (AA v):=by
    cases q:σ[j]? with
    | none=>rw[q]at B;cases B
    | some o=>rw[q]at B;show QG AA B
   have hk:=S.clo (y,NameKind.free) (lookup_mem C) rfl;obtain⟨m,hn,hl⟩:=(I.loc);obtain⟨u,ru,w⟩:=(hl j y v Q N (.inr hk));show(u,ru,.inr (?_,?_))
   .have q:=yr (env:=X.env) C
    change(relabel scope X.env).names.lookup y=_\/(relabel scope X.env).names.lookup y=_
    rw[show(relabel scope X.env).names.lookup y=_ from q];by_cases hc:(NameKind.free == NameKind.free&&X.env.scope.kind == .function&&X.env.kindOf y == AA .cell)=true
    .rw [qc hc];show .inl rfl
    .rw [wW hc];show .inr rfl
   .rcases w with⟨w,_⟩|⟨_,c,hc,aO⟩
    .rcases hk with hk|hk
     .rw [show X.env.kindOf y=_ from hk]at w;cases w
     .rw [show X.env.kindOf y=_ from hk]at w;cases w
    .refine(c,?_,aO.keeps up);have O:(y,NameKind.cell)∉scope.names:=λz=>by
      have:=z5F S.uniq C z;cases this
     change(cellsFrom _ scope.names _).lookup y=AA c
     rw[z6L scope.names _ _ y O];obtain⟨c',J⟩:=E y (lookup_mem C);have:=A y c' J;rw[hc]at this;cases this;show J
 .rcases D y c e with⟨a1,_,_⟩|a
  .exact(AB,a1)
  .obtain⟨v,q⟩:=I.cell y c a;show(v,q.keeps up)
 .show H (s.heap.push jt).objs.size=AB
  show I.hok.fresh (by rw[x];lia)
 .rcases D y c e with⟨_,a2,_⟩|a
  .exact I.hok.fresh (by lia)
  .exact I.freeC y c a
 .have P:p∈X.pn++A2:=by simpa using R
  obtain⟨e,n,ne,nf,d⟩:=(I.pin p P);have Z:=wI e;show(up _ _ e,n,?_,λz=>?_,d)
  .show p.1≠(s.heap.push jt).objs.size
   rw[x];show wS (Qc Z)
  .rcases wF.mp (I.stkSub p.1 z)with q|q
   .exact ne q
   .exact nf q
 .show(z7b σ ix (List.replicate xs.length AB)).length=(xs++fr).length
  unfold z7b;rw[wg,wa,wg,S.len,w0E]
end
def z2g(J:It)(g:TG)(tc:TT)(te:TE)(Q:List V->Hp->Prop)(σ0:St)(H1:Hp):Prop:=
 ∃(d:St->Prop)(W:Nat->Nat->List V->Hp->Prop),d σ0/\(∃m,W 0 m [] H1)/\∀i m ys σ H,d σ->W i m ys H->ys.length<AI/\
  ((J.stop i H/\Q ys H)\/(J.go i H/\∃(f:V->Hp->Prop)(e:Hp->Prop),(∀y a,f y a->∃c,c<m/\W (i+1) c (ys++[y]) a)/\(∀H2,e H2->∃c,c<m/\W (i+1) c ys H2)/\
   ∀x H',J.yld i H x H'->g x σ H' λσ2 H2=>d σ2/\tc σ2 H2 λb a=>if b=true then te σ2 a f else e a))
variable{Q:List V->Hp->Prop}{wi:TI}{tc:TT}{J:It}{j:Nat}{y:Str}{py bY:Pos}
section
variable{tg:Expr}{g:TG}{te:TE}{ix:List Nat}
theorem z53{σ:St}{it:AD}{O:Nat->AN->Prop}(hc:X.calm=true)(S:CompScG X scope xs fr ix)
  (dY:∀C cells s₀ H₀ ex A2,PE (j9 X scope (xs++fr) C cells s₀ H₀ ex A2) bw te)(dZ:∀C cells s₀ H₀ ex A2,z7Y (j9 X scope (xs++fr) C cells s₀ H₀ ex A2) bu tc)
  (fh:∀C cells s₀ H₀ ex A2,PG (j9 X scope (xs++fr) C cells s₀ H₀ ex A2) tg g)(I:Inv X A2 σ H s)(T:Turn X.prog X.w X.K tg J fp it O)(st:O 0 s.heap)(U:∀b∈fp,z3Y X A2 H b)(h:z2g J g tc te Q (z7b σ ix (List.replicate xs.length AB)) H)
  (hR:∀t ys P,(∃m,t.heap.Ns (s.heap.push jt).objs.size m)->Q ys P->P s.heap.objs.size=AB->P (s.heap.push jt).objs.size=AB->(∀h',Heap.SameBut (s.heap.push jt).objs.size t.heap h'->Inv X A2 σ (upd P s.heap.objs.size (.lst ys)) {t with heap:=h'})->R (.ok .next) t):
  codeAny (AV X.prog X.w) X.A (.compLoop (.ListComp bw [(tg,iter,bu,0)] scope pos) 0 (.ref it) (.ref s.heap.objs.size)
   (compEnvC scope (cellsFrom ((s.heap.push jt).push z0h).objs.size scope.names (yV X.env scope.names [])) (s.heap.push jt).objs.size X.env)) R {s with heap:=pushCells ((s.heap.push jt).push z0h) scope.names}:=by
 obtain⟨Sh,W,vT,⟨m0,w0⟩,turn⟩:=(h);have Y:∀b∈fp,b<s.heap.objs.size:=λb f=>by
  obtain⟨o,e,_⟩:=(T.obj 0 _ st b f);show wI e
 have I0:=z8M S I U Y;have z1:(s.heap.push jt).objs.size=s.heap.objs.size+1:=Qi ..;have up:∀b o,s.heap.get? b=AA o->(pushCells ((s.heap.push jt).push z0h) scope.names).get? b=AA o:=λb o e=>w0Y _ _ b o (wo _ (wo _ e))
 have sY:(pushCells ((s.heap.push jt).push z0h) scope.names).get? s.heap.objs.size=AA {cls:= .type "list",data:= .seq ([]:List AC).toArray}:=
  w0Y _ _ _ _ (wo _ (wX _ rfl))
 have bh:∀y∈scope.names,y.2= .free->∃c,X.env.cells.lookup y.1=AA c:=λy hy hk=>I.ok.has y.1 (S.clo y hy hk)
 have cD:∀y c,(cellsFrom ((s.heap.push jt).push z0h).objs.size scope.names (yV X.env scope.names [])).lookup y=AA c->c≠s.heap.objs.size:=λy c e=>by
  rcases z4d scope.names ((s.heap.push jt).push z0h) (yV X.env scope.names []) y c e with⟨_,a2,_⟩|a
  .rw [Qi,z1]at a2;show Qv (wM (Qc (w0C _)) a2)
  .obtain⟨v,q⟩:=I.cell y c (z2j scope.names [] bh (λy c e=>by simp at e) y c a);show wS q.lt
 generalize cellsFrom ((s.heap.push jt).push z0h).objs.size scope.names (yV X.env scope.names [])=cells at I0 cD ⊢;generalize hCe:(s.heap.push jt).objs.size=C at I0 hR z1 ⊢;generalize hDe:s.heap.objs.size=D at z1 sY cD Y hR ⊢;have mZ:D≠C:=by lia
 have j:s.heap.objs.size<=D:=by lia
 have E:s.heap.objs.size<=C:=by lia
 have vU:∀p∈X.pn++A2,p.1≠D:=λp hp=>by
  have:=wI (I.pin p hp).1;show wS (hDe ▸ this)
 have af:D∉frs X.stack:=λz=>by
  rcases wF.mp (I.stkSub D z)with e|e
  .have:=I.lt;rw[<-e,hDe]at this;show QF _ this
  .exact I.nofs j e
 show z6D (λn s'=>∃i ys aa k ox H',Inv (j9 X scope (xs++fr) C cells s H fp A2) [] ox H' s'/\O i s'.heap/\(∀b∈fp,H' b=AB)/\s'.heap.get? D=AA {cls:= .type "list",data:= .seq aa.toArray k}/\H' D=AB/\zS ys aa/\Sh ox/\W i n ys H') ?_ m0
  (0,[],[],0,_,H,I0,T.keep _ _ _ st λb f o e=>up b o e,λb f=>(U b f).1,sY,I.hok.fresh j,.nil,vT,w0)
 intro n s3 zz;obtain⟨i,ys,aa,k,ox,L,I3,aq,l6,vV,oX,Z,vW,w3⟩:=(zz);obtain⟨dz,e7⟩:=turn i n ys ox L vW w3;have hlen:=Z.length;have M:D≠(j9 X scope (xs++fr) C cells s H fp A2).env.locals:=mZ;have G:Inv (j9 X scope (xs++fr) C cells s H fp A2) [(D,{cls:= .type "list",data:= .seq aa.toArray k})] ox L s3:=I3.pins_of λp hp=>by
  rw[wm.mp hp];show(vV,oX,M,af,λv z=>by cases z)
 have oY:∀{H':Hp},(∀b∈fp,H' b=AB)->∀b∈fp,z3Y (j9 X scope (xs++fr) C cells s H fp A2) [(D,{cls:= .type "list",data:= .seq aa.toArray k})] H' b:=λ{H'} hn b f=>by
  obtain⟨e1,e2⟩:=I3.ok.exf b f;show(hn b f,e1,I3.ok.exfs b f,.inl f,e2,λp hp=>?_);rcases wA.mp hp with hp|hp
  .exact(U b f).2.2.2.2.2 p hp
  .rw [wm.mp hp];have:=Y b f;show Qv this
 rcases e7 with⟨stop,q⟩|⟨go,NY,NN,vX,vY,step⟩
 .refine thn (T.done (j9 X scope (xs++fr) C cells s H fp A2) rfl rfl rfl hc i _ s3 _ L _ G (oY l6) aq stop) ?_;rintro r t ⟨hr,I4⟩;subst hr;have vZ:=(I4.pin (D,{cls:= .type "list",data:= .seq aa.toArray k}) (wE _ (wm.mpr rfl))).1;obtain⟨m,hn,_⟩:=(I4.loc);show hR t ys L (m,hn) q oX I4.free λh' sb=>zd5 I U I4 j E mZ oX vZ Z (w1M dz) sb
 .refine thn (T.item (j9 X scope (xs++fr) C cells s H fp A2) rfl rfl rfl hc i _ s3 _ L _ G (oY l6) aq go) ?_;intro r t zz;obtain⟨u,hr,h4⟩:=(zz);subst hr;show thn h4 ?_;intro _ s5 zz;obtain⟨v,H5,I5,r5,y5,eS,oO⟩:=(zz);have ac:=I5.pinned (oY oO) (T.obj _ _ eS);show qQ (fh C cells s H fp A2 _ s5 _ H5 v u _ ac r5 (step v H5 y5)) (?_) λV V z=>z.elim
  intro _ s6 zz;obtain⟨σ6,H6,I6,sZ,q6⟩:=(zz);show qQ (dZ C cells s H fp A2 _ s6 _ H6 _ I6 q6) (?_) λV V z=>z.elim
  intro b s7 zz;obtain⟨H7,I7,q7⟩:=(zz);have t6:∀{x:Hp} {l:AE} {σ8:St},Inv (j9 X scope (xs++fr) C cells s H fp A2) ([(D,{cls:= .type "list",data:= .seq aa.toArray k})]++z4r fp s5.heap) σ8 x l->O (i+1) l.heap/\(∀b∈fp,x b=AB)/\l.heap.get? D=AA {cls:= .type "list",data:= .seq aa.toArray k}/\x D=none:=λ{x l σ8} B=>by
   show(T.keep _ _ _ eS λb f o e=>(B.pin (b,o) (wE _ (wE _ (z1C f e)))).1,λb f=>?_,?_,?_)
   .obtain⟨o,e,d⟩:=T.obj _ _ eS b f;show(B.pin (b,o) (wE _ (wE _ (z1C f e)))).2.1
   .exact(B.pin (D,{cls:= .type "list",data:= .seq aa.toArray k}) (wE _ (qj _ (wm.mpr rfl)))).1
   .exact(B.pin (D,{cls:= .type "list",data:= .seq aa.toArray k}) (wE _ (qj _ (wm.mpr rfl)))).2.1
  cases b with
  | false=>
   rw[wW wQ]at q7 ⊢;obtain⟨m',hm,w7⟩:=(vY _ q7);obtain⟨t1,t2,N,t4⟩:=(t6 I7);show(m',hm,i+1,ys,aa,k,σ6,H7,I7.pins_of λp hp=>(by cases hp),t1,t2,N,t4,Z,sZ,w7)
  | true=>
   rw[qc rfl]at q7 ⊢;show qQ (dY C cells s H fp A2 _ s7 _ H7 _ I7 q7) (?_) λV V z=>z.elim
   intro y l zz;obtain⟨w,x,B,r8,q8⟩:=(zz);obtain⟨m',hm,w8⟩:=(vX _ _ q8);obtain⟨t1,t2,N,t4⟩:=(t6 B);show w2c F.slot_list_append (_,N,rfl) F.entry_list_append (F.args_list_append_2 _ _) (PySem.list_append D aa.toArray k y (by rw[wB];lia)) (N,?_);obtain⟨k9,xa⟩:∃k9,(l.heap.update D (Obj.mapSeq (·.push y))).get? D=AA {cls:= .type "list",data:= .seq (aa++[y]).toArray k9}:=(_,by
    rw[show(aa++[y]).toArray=aa.toArray.push y by simp];show PySem.IsL.update N (·.push y))
   have ae:Inv (j9 X scope (xs++fr) C cells s H fp A2) [] σ6 x l:=B.pins_of λp hp=>(by cases hp)
   have I9:=Inv.turned (it:=D) (t':=l.toks) (h':=l.heap.update D (Obj.mapSeq (·.push y))) ae (λb o f e=>(qS l.heap _ (w0K f)).trans e) t4 M (.inr j) cD (λp hp=>vU p (by simpa using hp));show(m',hm,i+1,ys++[w],aa++[y],k9,σ6,x,I9,T.keep _ _ _ t1 λb f o e=>(qS l.heap _ (Qv (Y b f))).trans e,t2,xa,t4,Z.append (.cons r8 .nil),sZ,w8)
theorem zcf{R:VK->St->It->Hp->Prop}(conv:∀Q σ J H1,R Q σ J H1->z2g J g tc te (λys H2=>∀p,H2 p=AB->Q (.ref p) (upd H2 p (.lst ys))) (z7b σ ix (List.replicate xs.length AB)) H1)(hc:X.calm=true)(S:CompScG X scope xs fr ix)(hi:PI X tg iter wi)(B:∀C cells s₀ H₀ ex A2,PG (j9 X scope (xs++fr) C cells s₀ H₀ ex A2) tg g)
  (j:∀C cells s₀ H₀ ex A2,z7Y (j9 X scope (xs++fr) C cells s₀ H₀ ex A2) bu tc)(E:∀C cells s₀ H₀ ex A2,PE (j9 X scope (xs++fr) C cells s₀ H₀ ex A2) bw te)
  (hs:autoParam (∀x,foldedSetIterable iter X.env x=pure x) z_b._auto_1):PE X (.ListComp bw [(tg,iter,bu,0)] scope pos) (λσ H Q=>wi σ H λJ H1=>R Q σ J H1):=by
 intro A2 s σ H Q I h;rw[eval_ListComp];have z:∀y∈scope.names,y.2= .free->∃c,X.env.cells.lookup y.1=AA c:=λy F u=>I.ok.has y.1 (S.clo y F u)
 show wpAny_comprehension_free (use:=AB) rfl hs (z07 z) S.kind S.names (thn (hi A2 s σ H _ I h) λv N h1=>thn h1 λL a h2=>?_);obtain⟨it,fp,D,J,H2,rfl,r,T,f,f2,t⟩:=(h2);show w0o (z3M ?_);have n:D 0 (pushCells ((a.heap.push jt).push z0h) scope.names):=T.keep _ _ _ f λb d o e=>w0Y _ _ b o (wo _ (wo _ e))
 have loop:=z53 (iter:=iter) (pos:=pos) (R:=compPost (AV X.prog X.w) X.A X.xe AB (EP X A2 σ Q) (.ref a.heap.objs.size) (a.heap.push jt).objs.size) hc S E j B r T f f2 (conv _ _ _ _ t)
  (λG ys K ⟨m,hn⟩ q i M d=>(m,hn,λh' l=>(.ref a.heap.objs.size,_,d h' l,rfl,q _ i)))
 show codeAny_compStart_list loop (T.self _ _ _ _ _ n loop)
def zau(j:Nat)(wi:TI)(n:Nat)(ix:List Nat)(g:TG)(tc:TT)(te:TE):TS:=λD σ H=>wi σ H λJ H1=>z2g J g tc te (λys H2=>∀p,H2 p=AB->D.nx (σ.set j (AA (.ref p))) (upd H2 p (.lst ys))) (z7b σ ix (List.replicate n AB)) H1
theorem z3S{R:Ends->St->It->Hp->Prop}(conv:∀D σ J H1,R D σ J H1->z2g J g tc te (λys H2=>∀p,H2 p=AB->D.nx (σ.set j (AA (.ref p))) (upd H2 p (.lst ys))) (z7b σ ix (List.replicate xs.length AB)) H1)(hc:X.calm=true)(Z:X.N.Nodup)(hj:X.N[j]? =AA y)(u:Loc X.env.scope y)(S:CompScG X scope xs fr ix)(hi:PI X tg iter wi)(fh:∀C cells s₀ H₀ ex A2,PG (j9 X scope (xs++fr) C cells s₀ H₀ ex A2) tg g)
  (Y:∀C cells s₀ H₀ ex A2,z7Y (j9 X scope (xs++fr) C cells s₀ H₀ ex A2) bu tc)(dY:∀C cells s₀ H₀ ex A2,PE (j9 X scope (xs++fr) C cells s₀ H₀ ex A2) bw te)
  (hs:autoParam (∀x,foldedSetIterable iter X.env x=pure x) z_b._auto_1)
  (O:(swapsWith (.ListComp bw [(tg,iter,bu,0)] scope pos) (AA (.Name y py)) bY.line X.env=pure true)⁻¹)
  (L:autoParam (X.fn y=true\/X.env.scope.names.lookup y=AA .local) z_a._auto_1):
  PS X (.Assign [.Name y py] (.ListComp bw [(tg,iter,bu,0)] scope pos) bY) (λD σ H=>wi σ H λJ H1=>R D σ J H1):=by
 intro A2 s σ H D I h;rw[exec_Assign_Name_used _ _ _ _ O];show wu (wpAny_standAt (wu ?_))
 change AT _ X.A (do let _<-comprehension (.ListComp bw [(tg,iter,bu,0)] scope pos) scope X.env _ (newList []) false (eval iter X.env) (AA (assign (.Name y py) X.env))) _ _ s
 have M:∀y∈scope.names,y.2= .free->∃c,X.env.cells.lookup y.1=AA c:=λy u hk=>I.ok.has y.1 (S.clo y u hk)
 show wu (qQ (wpAny_comprehension_free (use:=AA (assign (.Name y py) X.env)) (Q:=λk s'=>SP X A2 D .next s') rfl hs (z07 M) S.kind S.names
  (thn (hi A2 s σ H _ I h) λv s1 h1=>thn h1 λmW d h2=>?_)) (λk s' hq=>wN (wN hq)) λk k e=>e)
 obtain⟨it,fp,U,J,H2,rfl,i,T,F,f2,hw⟩:=(h2);show w0o (z3M ?_);have aq:U 0 (pushCells ((d.heap.push jt).push z0h) scope.names):=T.keep _ _ _ F λb l o e=>w0Y _ _ b o (wo _ (wo _ e))
 have f:(d.heap.push jt).objs.size=d.heap.objs.size+1:=Qi ..;have loop:=z53 (iter:=iter) (pos:=pos) (R:=compPost (AV X.prog X.w) X.A X.xe (AA (assign (.Name y py) X.env)) (λk s'=>SP X A2 D .next s') (.ref d.heap.objs.size) (d.heap.push jt).objs.size) hc S dY Y fh i T F f2 (conv _ _ _ _ hw)
  (λn ys B ⟨m,hn⟩ q nD t l=>by
   have I5:Inv X A2 σ (upd B d.heap.objs.size (.lst ys)) n:=l n.heap (Heap.SameBut.refl ..);have E:(d.heap.push jt).objs.size≠X.env.locals:=by rw[f];show Qv (Qc i.lt)
   have G:∀z c,X.env.cells.lookup z=AA c->c≠(d.heap.push jt).objs.size:=λz c e=>by
    obtain⟨v,w⟩:=i.cell z c e;rw[f];show wS (Qc w.lt)
   change AT _ X.A (assign (.Name y py) X.env (.ref d.heap.objs.size)) _ _ n
   show wpAny_assign_Name (z68 (v:= .ref d.heap.objs.size) I5 Z hj u rfl (?_) L);intro P I6 zz;obtain⟨a,sa,ha⟩:=(zz);have K:(d.heap.push jt).objs.size≠a:=by
    rcases ha with e|e
    .rw [e];show E
    .exact(G _ _ e).symm
   show(m,hn.sameBut sa K,λh6 r=>?_);have nC:upd B d.heap.objs.size (.lst ys) (d.heap.push jt).objs.size=none:=by
    rw[zn (by rw[f];show Nat.succ_ne_self _)];show t
   have I7:=Inv.turned (it:=(d.heap.push jt).objs.size) (t':=P.toks) (h':=h6) I6 (λb o l e=>(r.2 b l).trans e) nC E (.inr (by rw[f];show Nat.le_succ_of_le i.sz)) G (λp hp=>by
    rw[f];show wS (Qc (wI (i.pin p hp).1)))
   show(_,_,I7,q _ nD))
 show codeAny_compStart_list loop (T.self _ _ _ _ _ aq loop)
theorem z7J(hc:X.calm=true)(b:X.N.Nodup)(d:X.N[j]? =AA y)(l:Loc X.env.scope y)(S:CompScG X scope xs fr ix)(hi:PI X tg iter wi)(f:∀C cells s₀ H₀ ex A2,PG (j9 X scope (xs++fr) C cells s₀ H₀ ex A2) tg g)
  (a:∀C cells s₀ H₀ ex A2,z7Y (j9 X scope (xs++fr) C cells s₀ H₀ ex A2) bu tc)(i:∀C cells s₀ H₀ ex A2,PE (j9 X scope (xs++fr) C cells s₀ H₀ ex A2) bw te)
  (hs:autoParam (∀x,foldedSetIterable iter X.env x=pure x) z_b._auto_1)
  (e:(swapsWith (.ListComp bw [(tg,iter,bu,0)] scope pos) (AA (.Name y py)) bY.line X.env=pure true)⁻¹)
  (c:autoParam (X.fn y=true\/X.env.scope.names.lookup y=AA .local) z_a._auto_1):
  PS X (.Assign [.Name y py] (.ListComp bw [(tg,iter,bu,0)] scope pos) bY) (zau j wi xs.length ix g tc te):=z3S (λv v v v h=>h) hc b d l S hi f a i hs e c
end
section
variable{px:Pos}{te:TE}{ix:List Nat}
theorem CompSc.g(S:CompSc X scope x fr ix):CompScG X scope [x] fr ix:=(S.kind,S.names,S.uniq,S.clo,S.free,S.nd,S.len)
theorem CompSc.pg(S:CompSc X scope x fr ix)(C:AD)(cells:List (Str×AD))(s₀:AE)(H₀:Hp)(ex:List AD)(A2:List (AD×Obj)):PG (j9 X scope ([x]++fr) C cells s₀ H₀ ex A2) (.Name x px) (z1L 0):=by
 rcases S.xloc with h|h
 .have a:(j9 X scope ([x]++fr) C cells s₀ H₀ ex A2).env.scope.names.lookup x=AA .local:=yr (env:=X.env) h;show z0E (i:=0) S.nd rfl (.inl a) (.inr a)
 .have a:(j9 X scope ([x]++fr) C cells s₀ H₀ ex A2).env.scope.names.lookup x=AA .cell:=yr (env:=X.env) h;show z0E (i:=0) S.nd rfl (.inr a) (.inl (qd (qZ h)))
theorem z9Y{σ:St}{H1:Hp}(h:z0p J σ ix tc te Q H1):z2g J (z1L 0) tc te Q (z7b σ ix (List.replicate 1 AB)) H1:=by
 obtain⟨W,w0,hs⟩:=h;show(λσ'=>∃ox,σ'=sub σ ix ox,W,(AB,rfl),w0,?_);rintro i m ys _ H ⟨ox,rfl⟩ w;obtain⟨l,o⟩:=hs i m ys H w;show(l,o.imp id λ⟨g,d,c,b,a,t⟩=>(g,d,c,b,a,λx H' y=>((AA x,rfl),t x H' y)))
def zfQ(wi:TI)(ix:List Nat)(tc:TT)(te:TE):TE:=λσ H Q=>wi σ H λJ H1=>z0p J σ ix tc te (λys H2=>∀p,H2 p=AB->Q (.ref p) (upd H2 p (.lst ys))) H1
theorem jH(hc:X.calm=true)(S:CompSc X scope x fr ix)(hi:PI X (.Name x px) iter wi)
  (a:∀C cells s₀ H₀ ex A2,z7Y (j9 X scope (x::fr) C cells s₀ H₀ ex A2) bu tc)(b:∀C cells s₀ H₀ ex A2,PE (j9 X scope (x::fr) C cells s₀ H₀ ex A2) bw te)
  (hs:autoParam (∀x,foldedSetIterable iter X.env x=pure x) z_b._auto_1):PE X (.ListComp bw [(.Name x px,iter,bu,0)] scope pos) (zfQ wi ix tc te):=zcf (xs:= [x]) (R:=λQ σ J H1=>z0p J σ ix tc te (λys H2=>∀p,H2 p=AB->Q (.ref p) (upd H2 p (.lst ys))) H1) (λv v v v h=>z9Y h) hc S.g hi S.pg a b hs
def zcG(j:Nat)(wi:TI)(ix:List Nat)(tc:TT)(te:TE):TS:=λD σ H=>wi σ H λJ H1=>z0p J σ ix tc te (λys H2=>∀p,H2 p=AB->D.nx (σ.set j (AA (.ref p))) (upd H2 p (.lst ys))) H1
theorem yb(hc:X.calm=true)(b:X.N.Nodup)(d:X.N[j]? =AA y)(i:Loc X.env.scope y)(S:CompSc X scope x fr ix)(hi:PI X (.Name x px) iter wi)
  (a:∀C cells s₀ H₀ ex A2,z7Y (j9 X scope (x::fr) C cells s₀ H₀ ex A2) bu tc)(f:∀C cells s₀ H₀ ex A2,PE (j9 X scope (x::fr) C cells s₀ H₀ ex A2) bw te)
  (hs:autoParam (∀x,foldedSetIterable iter X.env x=pure x) z_b._auto_1)
  (e:(swapsWith (.ListComp bw [(.Name x px,iter,bu,0)] scope pos) (AA (.Name y py)) bY.line X.env=pure true)⁻¹)
  (c:autoParam (X.fn y=true\/X.env.scope.names.lookup y=AA .local) z_a._auto_1):
  PS X (.Assign [.Name y py] (.ListComp bw [(.Name x px,iter,bu,0)] scope pos) bY) (zcG j wi ix tc te):=z3S (xs:= [x]) (R:=λD σ J H1=>z0p J σ ix tc te (λys H2=>∀p,H2 p=AB->D.nx (σ.set j (AA (.ref p))) (upd H2 p (.lst ys))) H1) (λv v v v h=>z9Y h) hc b d i S.g hi S.pg a f hs e c
end
end
section
noncomputable def z6v(sx:Scope)(NX:List Str)(scope:Scope)(x:Str)(fr:List Str)(ix:List Nat):Bool:=
 (scope.kind == .function)&&scope.names.all (λy=>y.2 != .local||scope.names.lookup y.1 == AA .local)&&decide ((scope.names.map (·.1)).Nodup) &&
 (scope.names.lookup x == AA .local||scope.names.lookup x == AA .cell)&&scope.names.all (λy=>y.2 != .free||(sx.names.lookup y.1 == AA .cell||sx.names.lookup y.1 == AA .free)) &&
 decide (fr.length=ix.length)&&decide ((x::fr).Nodup)&&(fr.zip ix).all λp=>NX[p.2]? == AA p.1&&scope.names.lookup p.1 == AA .free
variable{X:Cx}{x:Str}{fr:List Str}{scope:Scope}{NX:List Str}
theorem CompSc.of{sx:Scope}{ix:List Nat}(hs:X.env.scope=sx)(l:X.N=NX)(h:z6v sx NX scope x fr ix=true):CompSc X scope x fr ix:=by
 simp only[z6v,qX,decide_eq_true_eq,Qb,qU,Bool.or_eq_true,bne_iff_ne,ne_eq]at h;obtain⟨⟨⟨⟨⟨⟨⟨h1,h2⟩,n⟩,j⟩,d⟩,c⟩,f⟩,i⟩:=h;show(h1,λy b a=>?_,n,j,λy b a=>?_,λk y e=>?_,f,c)
 .rcases h2 y b with q|q
  .exact absurd a q
  .exact q
 .show X.env.scope.names.lookup y.1=_\/X.env.scope.names.lookup y.1=_
  rw[hs];rcases d y b with q|q
  .exact absurd a q
  .exact q
 .have a:k<ix.length:=by rw[<-c];show(we.mp e).1
  have hz:(fr.zip ix)[k]? =AA (y,ix[k]):=by
   rw[List.getElem?_zip_eq_some];show(e,wb a)
  obtain⟨a1,a2⟩:=i _ (qB hz);show(ix[k],wb a,by rw[l];show a1,a2)
noncomputable def zek(scope sx:Scope):Scope:=
 {scope with names:=scope.names.map λ(n,k)=>if(k == .free&&sx.kind == .function&&sx.names.lookup n == AA .cell)then(n,.cell)else(n,k)}
theorem CompSc.of2{a sx:Scope}{b:List Str}{C:AD}{cells:List (Str×AD)}{s₀:AE}{H₀:Hp}{ex:List AD}{A2:List (AD×Obj)}{ix:List Nat}(hs:X.env.scope=sx)(c:b=NX)(h:z6v (zek a sx) NX scope x fr ix=true):
  CompSc (j9 X a b C cells s₀ H₀ ex A2) scope x fr ix:=by
 show CompSc.of (sx:=zek a sx) ?_ c h;subst hs
 rfl
variable{a:AD}{xs:List V}{tc:TT}{Q:List V->Hp->Prop}{H:Hp}{σ:St}{te:TE}
theorem z0I{K:W.Frag}{ix:List Nat}(c:Nat->List V->Hp->Prop)(h0:c 0 [] H)(hl:∀i ys H,i<=xs.length->c i ys H->SqL K H a xs/\ys.length<AI)
  (hs:∀(i:Nat) x ys H,xs[i]? =AA x->c i ys H->tc (sub σ ix (AA x)) H λb H2=>if b=true then te (sub σ ix (AA x)) H2 λy d=>c (i+1) (ys++[y]) d else c (i+1) ys H2)(hd:∀ys H,c xs.length ys H->Q ys H):z0p (Itl K a) σ ix tc te Q H:=by
 show(λi m ys H=>m=xs.length-i/\i<=xs.length/\c i ys H,(_,rfl,qN _,h0),?_);rintro i m ys H ⟨rfl,hi,p⟩;obtain⟨q,hz⟩:=hl i ys H hi p;show(hz,?_);by_cases aA:i<xs.length
 .refine .inr ((xs,xs[i],q,by simp[aA]),λy d=>c (i+1) (ys++[y]) d,λH2=>c (i+1) ys H2,λy d z=>(xs.length-(i+1),by lia,rfl,aA,z),λH2 z=>(xs.length-(i+1),by lia,rfl,aA,z),λx H' y=>?_);obtain⟨e,y⟩:=y;subst e;show hs i x ys _ (y xs q) p
 .have e:i=xs.length:=by lia
  subst e;show .inl ((xs,q,wy _),hd ys H p)
variable{lo:Int}{n:Nat}
theorem z8h{ix:List Nat}(a:Nat->List V->Hp->Prop)(h0:a 0 [] H)(hl:∀i ys H,i<=n->a i ys H->ys.length<AI)
  (hs:∀(i:Nat) ys H,i<n->a i ys H->tc (sub σ ix (AA (.int (lo+i)))) H λb H2=>if b=true then te (sub σ ix (AA (.int (lo+i)))) H2 λy c=>a (i+1) (ys++[y]) c else a (i+1) ys H2)(hd:∀ys H,a n ys H->Q ys H):z0p (Itr lo n) σ ix tc te Q H:=by
 show(λi m ys H=>m=n-i/\i<=n/\a i ys H,(_,rfl,qN _,h0),?_);rintro i m ys H ⟨rfl,hi,p⟩;show(hl i ys H hi p,?_);by_cases aA:i<n
 .refine .inr (aA,λy c=>a (i+1) (ys++[y]) c,λH2=>a (i+1) ys H2,λy c z=>(n-(i+1),by lia,rfl,aA,z),λH2 z=>(n-(i+1),by lia,rfl,aA,z),λx H' y=>?_);obtain⟨e,y⟩:=y;subst e y;show hs i ys _ aA p
 .have e:i=n:=by lia
  subst e;show .inl (wy _,hd ys H p)
def je{K:W.Frag}{ix:List Nat}(b:Nat->List V->Hp->Prop)(h0:b 0 [] H)(hl:∀i ys H,i<=xs.length->b i ys H->SqL K H a xs/\ys.length<AI)
  (hs:∀(i:Nat) x ys H,xs[i]? =AA x->b i ys H->te (sub σ ix (AA x)) H λy c=>b (i+1) (ys++[y]) c)(hd:∀ys H,b xs.length ys H->Q ys H):z0p (Itl K a) σ ix z7W te Q H:=
 z0I b h0 hl (λi x ys H e p=>z8z (A:=te (sub σ ix (AA x)) H λy c=>b (i+1) (ys++[y]) c) (B:=b (i+1) ys H) (hs i x ys H e p)) hd
def z0g{ix:List Nat}(a:Nat->List V->Hp->Prop)(h0:a 0 [] H)(hl:∀i ys H,i<=n->a i ys H->ys.length<AI)
  (hs:∀(i:Nat) ys H,i<n->a i ys H->te (sub σ ix (AA (.int (lo+i)))) H λy b=>a (i+1) (ys++[y]) b)(hd:∀ys H,a n ys H->Q ys H):z0p (Itr lo n) σ ix z7W te Q H:=
 z8h a h0 hl (λi ys H e p=>z8z (A:=te (sub σ ix (AA (.int (lo+i)))) H λy b=>a (i+1) (ys++[y]) b) (B:=a (i+1) ys H) (hs i ys H e p)) hd
theorem z9O:∀(us:List AC)(ss:List Str),us.length=ss.length->(∀(j:Nat)(u:AC),us[j]? =AA u->∃x t,ss[j]? =AA x/\u=Value.str x t)->StrsAre us ss
 | [],[],_,_=> .nil
 | [],_::_,h,_=>by simp at h
 | _::_,[],h,_=>by simp at h
 | u::us,s::ss,h,a=>by
  obtain⟨x,t,f,c⟩:=a 0 u rfl;have b:s=x:=Option.some.inj f;subst b c;show .cons _ _ (z9O us ss (by simpa using h) λj d e=>a (j+1) d e)
def z5Q:∀{us:List AC} {ss:List Str},StrsAre us ss->zS (ss.map V.str) us
 | _,_,.nil=> .nil
 | _,_,.cons _ t r=> .cons (t,rfl) (z5Q r)
theorem z5c(hc:X.calm=true):kr X (.builtin "sorted") (λxs H Q=>∃d kvs ss,xs= [.ref d]/\H d=AA (.dK kvs)/\kvs.map (·.1)=ss.map Sum.inr/\kvs.length<64/\
  ∀l f,H l=AB->f.Perm ss->sortedS f=true->Q (.ref l) (upd H l (.lst (f.map V.str)))):=by
 intro A2 s σ H xs us Q I r h;obtain⟨d,kvs,ss,rfl,hd,O,nj,q⟩:=(h);obtain⟨u,rfl,L⟩:=(vals1 r);cases L;obtain⟨hz,P,vs,J,m⟩:kvs.length<=AI/\(d == sysModules)=false/\∃vs,KV kvs vs/\s.heap.DictOf (jC X.prog X.w) d vs:=I.hok d _ hd
 obtain⟨ep,aZ⟩:=m.dictAt;have hlen:kvs.length=vs.length:=Paired.length J;have C:vs.map (·.1)=ss.map Sum.inr:=(KV.keys J).symm.trans O;have xb:vs.length=ss.length:=by
  have:=QG List.length C
  rwa [wa,wa]at this
 show Calls.call_function_entry kind_sorted plain_sorted entry_sorted (args_sorted1 _) ?_;unfold Builtin.«sorted»;show wu (m:=checkCount "sorted" 1 1 _) (wN ?_);show wu (PySem.W.kdu_collect (A:=X.A.in1) (PySem.W.kdl_dict (knd:=jC X.prog X.w) (kvs:=vs) (ep:=ep) P) (I.ok.hd hc) aZ (by lia) λh' tk c S K=>?_);obtain⟨Z,N⟩:=K;have hl:c.toList.length=ss.length:=by rw[QJ,Z,xb]
 have p:StrsAre c.toList ss:=z9O _ _ hl λj u e=>by
  obtain⟨k,x,Y,U⟩:=(N j u (by rw[<-w0F];show e));have G:j<ss.length:=by rw[<-hl];show(we.mp e).1
  have D:(vs.map (·.1))[j]? =AA k:=by rw[wK,Y];rfl
  rw[C,wK,wb G]at D;have T:(Sum.inr ss[j]:Key)=k:=Option.some.inj D;subst T;rcases jE (show z3J (Sum.inr ss[j]) u=true from U)with⟨i,t,e3,_⟩|⟨y,t,e3,e4⟩
  .cases e3
  .cases e3;show(_,t,wb G,e4)
 have R:c.toList.length<64:=by lia
 have B:Inv X A2 σ H {s with heap:=h',toks:=tk}:=I.kept S;show wu (wpAny_newList ?_ (zR (by lia)));have n:(h'.push (seqObj "list" c.toList.toArray 0)).get? h'.objs.size=AA (seqObj "list" c.toList.toArray 0):=wX _ rfl;show wu (Qo (wpAny_call_entry slot_list_sort (_,n,rfl) entry_list_sort (list_sort_treeK strKind_oneLt n p.keysOf (λE F rest e=>keyKind_strs (by rw[<-e];show p)) R λad a1 a2=>(_,rfl,?_)) (args_list_sort _)));show wN (_,rfl,?_);obtain⟨f,b1,b2,M⟩:=(sorted_out_str p a1 a2);obtain⟨e,he⟩:=sortedHeap_at (out:=(arrOf ad).map (·.2)) n;show(.ref h'.objs.size,upd H h'.objs.size (.lst (f.map V.str)),?_,rfl,q _ f B.fresh b2 M);show B.laid (a:=h'.objs.size) (t':=tk) (λb o e=>?_) (wy _) (?_,_,e,z5Q b1,?_)
 .have z:=wI e;rw[sortedHeap_old (wS z) (by rw[Qi];show Qc z)];show wo _ e
 .rw [wa,b2.length_eq];show zR (by lia)
 .show(sortedHeap (h'.push (seqObj "list" c.toList.toArray 0)) h'.objs.size c.toList ((arrOf ad).map (·.2))).get? h'.objs.size=AA (seqObj "list" ((arrOf ad).map (·.2)).toList.toArray e)
  rw[Array.toArray_toList];show he
def leS(a b:Str):Prop:=¬b.cps.toList<a.cps.toList
def za3{a b c:Str}(h1:leS a b)(h2:leS b c):leS a c:=List.le_trans (α:=Nat) h1 h2
theorem zcd{a b:Str}(h:(!ltCps b.cps.toList a.cps.toList)=true):leS a b:=by
 rw[ltCps_eq,Bool.not_eq_true',decide_eq_false_iff_not]at h;show h
theorem z5E:∀(p:Str)(l:List Str),risingS p l=true->(p::l).Pairwise leS
 | p,[],_=>List.pairwise_singleton _ _
 | p,x::r,h=>by
  rw[show risingS p (x::r)=(!ltCps x.cps.toList p.cps.toList&&risingS x r)from rfl,qX]at h;have a:=z5E x r h.2;show List.pairwise_cons.mpr (λy hy=>?_,a);rcases wF.mp hy with e|hy
  .rw [e];show zcd h.1
  .exact za3 (zcd h.1) (List.rel_of_pairwise_cons a hy)
def zaj:∀{l:List Str},sortedS l=true->l.Pairwise leS
 | [],_=> .nil
 | x::r,h=>z5E x r h
theorem kA{α:Type}[DecidableEq α]:∀{l us:List α},l.Nodup->(∀x∈l,x∈us)->l.length<=us.length
 | [],_,_,_=>qN _
 | x::l,us,hn,hs=>by
  obtain⟨h1,h2⟩:=w05.mp hn;have a:x∈us:=hs x qI;have c:=kA (l:=l) (us:=us.erase x) h2 λy b=>(List.mem_erase_of_ne (λe=>h1 (by rw[<-e];show b))).mpr (hs y (q5 _ b))
  rw[List.length_erase_of_mem a]at c;have:0<us.length:=List.length_pos_of_mem a;rw[wP]
  lia
def z1S{i:Nat}{v:V}{Q:St->Hp->Prop}(h:Q (σ.set i (AA v)) H):z1L i v σ H Q:=h
def z3j{t u:TS}{D:Ends}(h:t {D with nx:=u D} σ H):z1y t u D σ H:=h
variable{t:TA}{es:List Expr}
section
variable{K:W.Frag}
theorem yF(h:X.K=K):IxR X (zew K):=by subst h;show z9H
theorem z0a(h:X.K=K):IxR X (zey K):=by subst h;show zcZ
theorem z8C(h:X.K=K):OpR X (compareOp .In) (rIn K false):=by subst h;show kU
theorem z5o(h:X.K=K):kr X (.builtin "len") (λxs H Q=>∃p ys,xs= [.ref p]/\(SqL K H p ys\/SqT K H p ys)/\Q (.int ys.length) H):=by subst h;show z39
theorem z2B(h:X.K=K):kr X (.type "list") (λxs H Q=>∃p ys,xs= [.ref p]/\(SqL K H p ys\/SqT K H p ys)/\∀l,H l=AB->Q (.ref l) (upd H l (.lst ys))):=by subst h;show yL
theorem z67(h:X.K=K):MtM X "list.index" (zbe K):=by subst h;show yi
theorem z7o{tg l:Expr}{tl:TE}(h:X.K=K)(hl:PE X l tl):PI X tg l (zei K tl):=by subst h;show zW hl
theorem z8g{o e:Expr}{to:TE}{name:Str}{apos am:Pos}{T id:String}{r:V->List V->Hp->VK->Prop}(h:X.K=K)(i:PlainAttrs T)(slot:Slot T name id)(b:typeOf (.builtin id)=pure (.type "method_descriptor"))(hm:MtR X id r)(a:PE X o to)(ha:PA X (e::es) t)
  (c:(attributeBase o name X.env (eval o X.env)=eval o X.env)⁻¹)
  (d:((backTo am (AJ (e::es) X.env)).all (λx=> !x.1)&&(backToKw am (keywordEach [] X.env)).all (λx=>x.1.isSome)
   && decide ((e::es).length+([]:List Keyword).length+(if([]:List Keyword).isEmpty then 0 else 1)<30))=true:=by rfl)
  (f:((apos.endLine == am.line)=true)⁻¹) (hs:e∣es) (hplain:((backTo am (AJ es X.env)).any (·.1)=false)⁻¹):
  PE X (.Call (.Attribute o name apos) (e::es) [] am) (tBM K T r to t):=by
 subst h;show kH i slot b hm a ha c d f hs hplain
end
section
variable{te:TE}
def zh{a b c}(ha:PE X (.Constant a b c) te)(d:PA X es t):PA X (.Constant a b c::es) (z1I te t):=zP ha d
def za{a b}(ha:PE X (.Name a b) te)(c:PA X es t):PA X (.Name a b::es) (z1I te t):=zP ha c
def zA{a b c}(ha:PE X (.Tuple a b c) te)(d:PA X es t):PA X (.Tuple a b c::es) (z1I te t):=zP ha d
def yp{a b c d}(ha:PE X (.BinOp a b c d) te)(e:PA X es t):PA X (.BinOp a b c d::es) (z1I te t):=zP ha e
def zp{a b c}(ha:PE X (.Subscript a b c) te)(d:PA X es t):PA X (.Subscript a b c::es) (z1I te t):=zP ha d
def zK{a b c d}(ha:PE X (.Call a b c d) te)(e:PA X es t):PA X (.Call a b c d::es) (z1I te t):=zP ha e
def jO{a b}(ha:PE X (.List a b) te)(c:PA X es t):PA X (.List a b::es) (z1I te t):=zP ha c
def zd8{a b c}(ha:PE X (.UnaryOp a b c) te)(d:PA X es t):PA X (.UnaryOp a b c::es) (z1I te t):=zP ha d
def z9x{a b c d}(ha:PE X (.Compare a b c d) te)(e:PA X es t):PA X (.Compare a b c d::es) (z1I te t):=zP ha e
def z0z{a b c d}(ha:PE X (.ListComp a b c d) te)(e:PA X es t):PA X (.ListComp a b c d::es) (z1I te t):=zP ha e
end
theorem z49{a b:Int}{k1 k2}{d p2 c:Pos}(hc:zfU a b):PE X (.BinOp (.Constant (.int a) k1 d) .Pow (.Constant (.int b) k2 p2) c) (tC (.int (a ^ b.toNat))):=by
 intro A2 s σ H Q I h;show(zq zfn zd zd) A2 s σ H Q I (a,b,rfl,rfl,hc,h)
end
section
def tL:List (W.Frag->TS)->W.Frag->TS
 | [],_=>z2z
 | a::b,K=>z1y (a K) (tL b K)
structure NmF(a b:W.Frag->TS):Prop where
 e:∀K,a K=b K
structure ClF(a:W.Frag->TS)(bs:List (W.Frag->TS)):Prop where
 e:∀K,a K=tL bs K
variable{D:Ends}{H:Hp}
section
variable{a a' b b1 b2:W.Frag->TS}{bs bi cH:List (W.Frag->TS)}{c:W.Frag->TT}{wi:W.Frag->TI}{g:W.Frag->TG}
theorem zbs:ClF (λv=>z2z) []:=⟨λv=>rfl⟩
theorem z9d(h0:NmF a a')(h2:ClF b bs):ClF (λK=>z1y (a K) (b K)) (a'::bs):=⟨λK=>by change z1y (a K) (b K)=z1y (a' K) (tL bs K);rw[h0.e,h2.e]⟩
theorem zb6(h0:NmF a a'):ClF a [a']:=⟨λK=>by rw[h0.e];rfl⟩
theorem zef(h1:ClF b1 bi)(h2:ClF b2 cH)(h:NmF (λK=>z6S (c K) (tL bi K) (tL cH K)) a'):NmF (λK=>z6S (c K) (b1 K) (b2 K)) a':=⟨λK=>by rw[h1.e,h2.e];show h.e K⟩
theorem zbR(h1:ClF b1 bi)(h2:ClF b2 cH)(h:NmF (λK=>zbJ (c K) (tL bi K) (tL cH K)) a'):NmF (λK=>zbJ (c K) (b1 K) (b2 K)) a':=⟨λK=>by rw[h1.e,h2.e];show h.e K⟩
theorem z7y(h1:ClF b1 bi)(h:NmF (λK=>z1G (c K) (tL bi K)) a'):NmF (λK=>z1G (c K) (b1 K)) a':=⟨λK=>by rw[h1.e];show h.e K⟩
theorem zbW(h1:ClF b1 bi)(h:NmF (λK=>zaI (wi K) (g K) (tL bi K)) a'):NmF (λK=>zaI (wi K) (g K) (b1 K)) a':=⟨λK=>by rw[h1.e];show h.e K⟩
theorem jF{K:W.Frag}{σ:St}{t:W.Frag->TS}(e:ClF t bs)(h:tL bs K D σ H):∀a,K=a->t a D σ H:=by
 rintro _ rfl;rw[e.e];show h
end
def tL2:List (W.Frag->AD->TS)->W.Frag->AD->TS
 | [],_,_=>z2z
 | a::b,K,A=>z1y (a K A) (tL2 b K A)
structure NmF2(a b:W.Frag->AD->TS):Prop where
 e:∀K A,a K A=b K A
structure ClF2(a:W.Frag->AD->TS)(bs:List (W.Frag->AD->TS)):Prop where
 e:∀K A,a K A=tL2 bs K A
section
variable{a a' b b1 b2:W.Frag->AD->TS}{bs bi cH:List (W.Frag->AD->TS)}{c:W.Frag->AD->TT}{wi:W.Frag->AD->TI}{g:W.Frag->AD->TG}
theorem z9K:ClF2 (λv v=>z2z) []:=⟨λv v=>rfl⟩
theorem z7f(h0:NmF2 a a')(h2:ClF2 b bs):ClF2 (λK A=>z1y (a K A) (b K A)) (a'::bs):=⟨λK A=>by change z1y (a K A) (b K A)=z1y (a' K A) (tL2 bs K A);rw[h0.e,h2.e]⟩
theorem z9N(h0:NmF2 a a'):ClF2 a [a']:=⟨λK A=>by rw[h0.e];rfl⟩
theorem zch(h1:ClF2 b1 bi)(h2:ClF2 b2 cH)(h:NmF2 (λK A=>z6S (c K A) (tL2 bi K A) (tL2 cH K A)) a'):NmF2 (λK A=>z6S (c K A) (b1 K A) (b2 K A)) a':=⟨λK A=>by rw[h1.e,h2.e];show h.e K A⟩
theorem z9R(h1:ClF2 b1 bi)(h2:ClF2 b2 cH)(h:NmF2 (λK A=>zbJ (c K A) (tL2 bi K A) (tL2 cH K A)) a'):NmF2 (λK A=>zbJ (c K A) (b1 K A) (b2 K A)) a':=⟨λK A=>by rw[h1.e,h2.e];show h.e K A⟩
theorem z5y(h1:ClF2 b1 bi)(h:NmF2 (λK A=>z1G (c K A) (tL2 bi K A)) a'):NmF2 (λK A=>z1G (c K A) (b1 K A)) a':=⟨λK A=>by rw[h1.e];show h.e K A⟩
theorem z0M{K:W.Frag}{A:AD}{σ:St}{t:W.Frag->AD->TS}(e:ClF2 t bs)(h:tL2 bs K A D σ H):∀b,K=b->∀a,A=a->t b a D σ H:=by
 rintro _ rfl _ rfl;rw[e.e];show h
end
def tL3:List (W.Frag->AD->AD->TS)->W.Frag->AD->AD->TS
 | [],_,_,_=>z2z
 | a::b,K,A,B=>z1y (a K A B) (tL3 b K A B)
structure NmF3(a b:W.Frag->AD->AD->TS):Prop where
 e:∀K A B,a K A B=b K A B
structure ClF3(a:W.Frag->AD->AD->TS)(bs:List (W.Frag->AD->AD->TS)):Prop where
 e:∀K A B,a K A B=tL3 bs K A B
section
variable{a a' b b1 b2:W.Frag->AD->AD->TS}{bs bi cH:List (W.Frag->AD->AD->TS)}{c:W.Frag->AD->AD->TT}{wi:W.Frag->AD->AD->TI}{g:W.Frag->AD->AD->TG}
theorem z9y:ClF3 (λv v v=>z2z) []:=⟨λv v v=>rfl⟩
theorem z88(h0:NmF3 a a')(h2:ClF3 b bs):ClF3 (λK A B=>z1y (a K A B) (b K A B)) (a'::bs):=⟨λK A B=>by change z1y (a K A B) (b K A B)=z1y (a' K A B) (tL3 bs K A B);rw[h0.e,h2.e]⟩
theorem z98(h0:NmF3 a a'):ClF3 a [a']:=⟨λK A B=>by rw[h0.e];rfl⟩
theorem zbS(h1:ClF3 b1 bi)(h2:ClF3 b2 cH)(h:NmF3 (λK A B=>z6S (c K A B) (tL3 bi K A B) (tL3 cH K A B)) a'):NmF3 (λK A B=>z6S (c K A B) (b1 K A B) (b2 K A B)) a':=⟨λK A B=>by rw[h1.e,h2.e];show h.e K A B⟩
theorem z5Z(h1:ClF3 b1 bi)(h:NmF3 (λK A B=>z1G (c K A B) (tL3 bi K A B)) a'):NmF3 (λK A B=>z1G (c K A B) (b1 K A B)) a':=⟨λK A B=>by rw[h1.e];show h.e K A B⟩
theorem z9j(h1:ClF3 b1 bi)(h:NmF3 (λK A B=>zaI (wi K A B) (g K A B) (tL3 bi K A B)) a'):NmF3 (λK A B=>zaI (wi K A B) (g K A B) (b1 K A B)) a':=⟨λK A B=>by rw[h1.e];show h.e K A B⟩
theorem z6t{K:W.Frag}{A B:AD}{σ:St}{t:W.Frag->AD->AD->TS}(e:ClF3 t bs)(h:tL3 bs K A B D σ H):∀b,K=b->∀a,A=a->∀c,B=c->t b a c D σ H:=by
 rintro _ rfl _ rfl _ rfl;rw[e.e];show h
end
end
section
variable{X:Cx}{pos:Pos}{N ps:List Str}{sc:Scope}{x:Str}{e:Expr}{op:CmpOp}{r:R2}{sp:Sp}{body:List Stmt}{tb:TS}
section
variable{a b:Expr}{ta tb:TE}
theorem ixT(ha:PE X a ta)(c:PE X b tb)(hs:z6Q b:=by show λv v=>rfl):PE X (.Subscript a b pos) (tOp (zey X.K) ta tb):=yw zcZ ha c hs
theorem ixL(ha:PE X a ta)(c:PE X b tb)(hs:z6Q b:=by show λv v=>rfl):PE X (.Subscript a b pos) (tOp (zew X.K) ta tb):=yw z9H ha c hs
theorem seT(i:Nat)(S:FnScope N ps sc){te:TE}{pos':Pos}(he:PE X e te)(b:(X.N=N)⁻¹)(hi:(X.N[i]? =AA x)⁻¹)(a:Loc X.env.scope x:=by show w0v rfl)(hs:(swapsWith e (AA (.Name x pos')) pos.line X.env=pure false)⁻¹)(c:autoParam (X.fn x=true\/X.env.scope.names.lookup x=AA .local) z_a._auto_1):
  PS X (.Assign [.Name x pos'] e pos) (zdm te (z1L i)):=yU (b ▸ S.nd) hi a he hs c
theorem gnM(i:Nat)(S:FnScope N ps sc)(b:(X.N=N)⁻¹)(hi:(X.N[i]? =AA x)⁻¹)(a:Loc X.env.scope x:=by show w0v rfl)(c:autoParam (X.fn x=true\/X.env.scope.names.lookup x=AA .local) z_a._auto_1):PG X (.Name x pos) (z1L i):=z0E (b ▸ S.nd) hi a c
theorem cmE(c:OpR X (compareOp op) r)(ha:PE X a ta)(d:PE X b tb)(hm:behindInMarks op b=false:=by show zbC _):PE X (.Compare a [op] [b] pos) (tOp r ta tb):=z4a c ha d hm
theorem cmT(c:OpR X (compareOp op) r)(ha:PE X a ta)(d:PE X b tb)(hm:behindInMarks op b=false:=by show zbC _):PT X (.Compare a [op] [b] pos) (zeg (tOp r ta tb)):=z0b c ha d hm
variable{es:List Expr}{t:TA}{p:Pos}
theorem jd{k:Nat}(C:Kn X.prog X.w X.K X.mg X.base k x ps sp)(a:Room k X.A)(ha:PA X (e::es) t)(d:(Gl X x)⁻¹)
  (c:x∣0)(he:e∣es)(b:((backTo pos (AJ es X.env)).any (·.1)=false)⁻¹):
  PE X (.Call (.Name x p) (e::es) [] pos) (z94 sp [] E0 t):=z75 C a d ha c he b
theorem leN(hm:X.mg "len"=AB)(ha:PA X (e::es) t)(b:(Gl X "len")⁻¹)(he:e∣es)(a:((backTo pos (AJ es X.env)).any (·.1)=false)⁻¹):
  PE X (.Call (.Name "len" p) (e::es) [] pos) (tCB (λxs H Q=>∃p ys,xs= [.ref p]/\(SqL X.K H p ys\/SqT X.K H p ys)/\Q (.int ys.length) H) t):=zM z39 b hm PySem.boot_len ha (by decide) (by decide) he a
theorem foR{tg iter:Expr}{wi:TI}{g:TG}{tb:TS}(hi:PI X tg iter wi)(c:PG X tg g)(b:PSs X body tb)(a:PassesOwn (AV X.prog X.w) X.A X.env X.xe:=by show PassesOwn.never)(hc:(X.calm=true)⁻¹)
  (hs:autoParam (∀x,foldedSetIterable iter X.env x=pure x) z_b._auto_1):PS X (.For tg iter body [] pos) (zaI wi g tb):=z4v a hc hi c b hs
theorem z8Q{c:Expr}{tc:TT}{tb:TS}(hc:PT X c tc)(a:PSs X body tb)(b:PassesOwn (AV X.prog X.w) X.A X.env X.xe:=by show PassesOwn.never):PS X (.While c body [] pos) (z1G tc tb):=z4P b hc a
theorem apP{o:Expr}{to:TE}{apos am:Pos}(d:PE X o to)(ha:PA X (e::es) t)(b:(attributeBase o "append" X.env (eval o X.env)=eval o X.env)⁻¹)
  (c:((backTo am (AJ (e::es) X.env)).all (λx=> !x.1)&&(backToKw am (keywordEach [] X.env)).all (λx=>x.1.isSome)
   && decide ((e::es).length+([]:List Keyword).length+(if([]:List Keyword).isEmpty then 0 else 1)<30))=true:=by rfl)
  (a:((apos.endLine == am.line)=true)⁻¹) (hs:e∣es) (hplain:((backTo am (AJ es X.env)).any (·.1)=false)⁻¹):
  PE X (.Call (.Attribute o "append" apos) (e::es) [] am) (tBM X.K "list" z8Z to t):=kH wR PySem.F.slot_list_append PySem.F.type_list_append zaQ d ha b c a hs hplain
end
section
variable{P:AM}{w:Av}{K:W.Frag}{mg:Str->Option AC}{base:AN}
def BodyOk(P:AM)(w:Av)(K:W.Frag)(mg:Str->Option AC)(base:AN)(N:List Str)(qual:Str)(st:Stmt)(k:Nat)(f:AD)(vs:List V)(H:Hp)(Q:VK)(E:XK):Prop:=
 ∀(ag:AC)(A:Aj)(A3:List Env)(s:AE),Room k (A.deeper (envOfC qual (zj st) s.heap.objs.size f ag))->
  ∃t,PSs (z1e CX0 P w K mg base N qual (zj st) f ag A A3 s H E).nox (jN st) t/\t {nx:=λv H'=>Q .non H',rt:=Q} (start N vs) H
theorem Fun.okB{qual:Str}{st:Stmt}{f:AD}{fd:A1}{k:Nat}(F:Fun K x qual st f fd)(S:FnScope N ps (zj st))(len:∀vs H Q E,sp vs H Q E->vs.length=ps.length)
  (a:∀vs H Q E,sp vs H Q E->BodyOk P w K mg base N qual st k f vs H Q E):FnOk P w K mg base CX0 (k+1) f fd ps sp:=
 F.ok S len λag A A3 s H vs Q E b h=>a vs H Q E h ag A A3 s b
end
theorem v0(b:(X.N[0]? =AA x)⁻¹)(a:autoParam (Vis X.env.scope x) z_c._auto_1)(hd:x∣0)(c: ~~~((x == ("__classdict__":Str))=false)):PE X (.Name x pos) (z6f 0):=z2H b a hd c
theorem v1(b:(X.N[1]? =AA x)⁻¹)(a:autoParam (Vis X.env.scope x) z_c._auto_1)(hd:x∣0)(c: ~~~((x == ("__classdict__":Str))=false)):PE X (.Name x pos) (z6f 1):=z2H b a hd c
theorem v2(b:(X.N[2]? =AA x)⁻¹)(a:autoParam (Vis X.env.scope x) z_c._auto_1)(hd:x∣0)(c: ~~~((x == ("__classdict__":Str))=false)):PE X (.Name x pos) (z6f 2):=z2H b a hd c
theorem v3(b:(X.N[3]? =AA x)⁻¹)(a:autoParam (Vis X.env.scope x) z_c._auto_1)(hd:x∣0)(c: ~~~((x == ("__classdict__":Str))=false)):PE X (.Name x pos) (z6f 3):=z2H b a hd c
theorem v4(b:(X.N[4]? =AA x)⁻¹)(a:autoParam (Vis X.env.scope x) z_c._auto_1)(hd:x∣0)(c: ~~~((x == ("__classdict__":Str))=false)):PE X (.Name x pos) (z6f 4):=z2H b a hd c
theorem v5(b:(X.N[5]? =AA x)⁻¹)(a:autoParam (Vis X.env.scope x) z_c._auto_1)(hd:x∣0)(c: ~~~((x == ("__classdict__":Str))=false)):PE X (.Name x pos) (z6f 5):=z2H b a hd c
theorem yx{n:Nat}(h:Nat.ble n 1000000=true):n<=sizeLine:=zR (qe h)
end
end Lake

namespace Cn
open PySem Lake
inductive Side where
 | nm (s:Str)|nu (i:Int)
noncomputable def Side.v:Side->V
 | .nm s=> .str s
 | .nu i=> .int i
def Side.ok(hs:List Str):Side->Prop
 | .nm s=>s∈hs
 | .nu _=>True
noncomputable def Side.cols:Side->List Str
 | .nm s=> [s]
 | .nu _=> []
set_option genSizeOf true in
inductive Cond where
 | less (a b:Side)|same (a b:Side)|no (c:Cond)|an (c d:Cond)|or (c d:Cond)
namespace Cond
noncomputable def size:Cond->Nat
 | .less _ _=>1
 | .same _ _=>1
 | .no c=>c.size+1
 | .an c d=>c.size+d.size+1
 | .or c d=>c.size+d.size+1
noncomputable def leaf:Cond->Bool
 | .less _ _=>true
 | .same _ _=>true
 | _=>false
def ok(hs:List Str):Cond->Prop
 | .less a b=>a.ok hs/\b.ok hs
 | .same a b=>a.ok hs/\b.ok hs
 | .no c=>c.ok hs
 | .an c d=>c.ok hs/\d.ok hs
 | .or c d=>c.ok hs/\d.ok hs
noncomputable def cols:Cond->List Str
 | .less a b=>a.cols++b.cols
 | .same a b=>a.cols++b.cols
 | .no c=>c.cols
 | .an c d=>c.cols++d.cols
 | .or c d=>c.cols++d.cols
theorem size_pos(c:Cond):1<=c.size:=by
 cases c<;>simp only[size]<;>lia
theorem z0F(a:Side):a.cols.length<=1:=by
 cases a<;>simp[Side.cols]
theorem cols_le:∀c:Cond,c.cols.length<=2*c.size
 | .less a b=>by
  have h1:=z0F a;have h2:=z0F b;simp only[cols,size,wg];lia
 | .same a b=>by
  have h1:=z0F a;have h2:=z0F b;simp only[cols,size,wg];lia
 | .no c=>by
  have:=cols_le c;simp only[cols,size];lia
 | .an c d=>by
  have h1:=cols_le c;have h2:=cols_le d;simp only[cols,size,wg];lia
 | .or c d=>by
  have h1:=cols_le c;have h2:=cols_le d;simp only[cols,size,wg];lia
end Cond
noncomputable def num(hs:List Str)(rs:List Int):Side->Int
 | .nm s=>rs.getD (hs.idxOf s) 0
 | .nu i=>i
noncomputable def ev(hs:List Str)(rs:List Int):Cond->Bool
 | .less a b=>decide (num hs rs a<num hs rs b)
 | .same a b=>decide (num hs rs a=num hs rs b)
 | .no c=> !ev hs rs c
 | .an c d=>ev hs rs c&&ev hs rs d
 | .or c d=>ev hs rs c||ev hs rs d
def zI(H:Hp):Cond->V->Prop
 | .less a b,v=>∃p,v= .ref p/\H p=AA (.tup [.str "less",a.v,b.v])
 | .same a b,v=>∃p,v= .ref p/\H p=AA (.tup [.str "same",a.v,b.v])
 | .no c,v=>∃p x,v= .ref p/\H p=AA (.tup [.str "not",x])/\zI H c x
 | .an c d,v=>∃p x y,v= .ref p/\H p=AA (.tup [.str "and",x,y])/\zI H c x/\zI H d y
 | .or c d,v=>∃p x y,v= .ref p/\H p=AA (.tup [.str "or",x,y])/\zI H c x/\zI H d y
variable{H:Hp}
theorem zI.mono{H':Hp}(t:∀b xs,H b=AA (.tup xs)->H' b=AA (.tup xs)):∀{c:Cond} {v:V},zI H c v->zI H' c v
 | .less _ _,_,h=>by
  obtain⟨p,rfl,h⟩:=h;show(p,rfl,t _ _ h)
 | .same _ _,_,h=>by
  obtain⟨p,rfl,h⟩:=h;show(p,rfl,t _ _ h)
 | .no _,_,h=>by
  obtain⟨p,x,rfl,h,h1⟩:=h;show(p,x,rfl,t _ _ h,h1.mono t)
 | .an _ _,_,h=>by
  obtain⟨p,x,y,rfl,h,h1,h2⟩:=h;show(p,x,y,rfl,t _ _ h,h1.mono t,h2.mono t)
 | .or _ _,_,h=>by
  obtain⟨p,x,y,rfl,h,h1,h2⟩:=h;show(p,x,y,rfl,t _ _ h,h1.mono t,h2.mono t)
variable{c:Cond}
theorem zI.same{H':Hp}{v:V}(e:zw H H')(h:zI H c v):zI H' c v:=h.mono λb xs q=>e b _ q
theorem zI.ref{v:V}(h:zI H c v):∃p xs,v= .ref p/\H p=AA (.tup xs):=by
 cases c with
 | less a b=>obtain⟨p,rfl,h⟩:=h;show(p,_,rfl,h)
 | same a b=>obtain⟨p,rfl,h⟩:=h;show(p,_,rfl,h)
 | no c=>obtain⟨p,x,rfl,h,_⟩:=h;show(p,_,rfl,h)
 | an c d=>obtain⟨p,x,y,rfl,h,_⟩:=h;show(p,_,rfl,h)
 | or c d=>obtain⟨p,x,y,rfl,h,_⟩:=h;show(p,_,rfl,h)
theorem zI.head{v:V}(h:zI H c v):∃(p:AD)(x:Str)(xs:List V),v= .ref p/\H p=AA (.tup (.str x::xs))/\inV (.str x) [.str "less",.str "same"]=c.leaf:=by
 cases c with
 | less a b=>obtain⟨p,rfl,h⟩:=h;show(p,_,_,rfl,h,(by change inV _ _=_;first|show(by decide:inV (.str "less") [.str "less",.str "same"]=true)|show(by decide:inV (.str "same") [.str "less",.str "same"]=true)|show(by decide:inV (.str "not") [.str "less",.str "same"]=false)|show(by decide:inV (.str "and") [.str "less",.str "same"]=false)|show(by decide:inV (.str "or") [.str "less",.str "same"]=false)))
 | same a b=>obtain⟨p,rfl,h⟩:=h;show(p,_,_,rfl,h,(by change inV _ _=_;first|show(by decide:inV (.str "less") [.str "less",.str "same"]=true)|show(by decide:inV (.str "same") [.str "less",.str "same"]=true)|show(by decide:inV (.str "not") [.str "less",.str "same"]=false)|show(by decide:inV (.str "and") [.str "less",.str "same"]=false)|show(by decide:inV (.str "or") [.str "less",.str "same"]=false)))
 | no c=>obtain⟨p,x,rfl,h,_⟩:=h;show(p,_,_,rfl,h,(by change inV _ _=_;first|show(by decide:inV (.str "less") [.str "less",.str "same"]=true)|show(by decide:inV (.str "same") [.str "less",.str "same"]=true)|show(by decide:inV (.str "not") [.str "less",.str "same"]=false)|show(by decide:inV (.str "and") [.str "less",.str "same"]=false)|show(by decide:inV (.str "or") [.str "less",.str "same"]=false)))
 | an c d=>obtain⟨p,x,y,rfl,h,_⟩:=h;show(p,_,_,rfl,h,(by change inV _ _=_;first|show(by decide:inV (.str "less") [.str "less",.str "same"]=true)|show(by decide:inV (.str "same") [.str "less",.str "same"]=true)|show(by decide:inV (.str "not") [.str "less",.str "same"]=false)|show(by decide:inV (.str "and") [.str "less",.str "same"]=false)|show(by decide:inV (.str "or") [.str "less",.str "same"]=false)))
 | or c d=>obtain⟨p,x,y,rfl,h,_⟩:=h;show(p,_,_,rfl,h,(by change inV _ _=_;first|show(by decide:inV (.str "less") [.str "less",.str "same"]=true)|show(by decide:inV (.str "same") [.str "less",.str "same"]=true)|show(by decide:inV (.str "not") [.str "less",.str "same"]=false)|show(by decide:inV (.str "and") [.str "less",.str "same"]=false)|show(by decide:inV (.str "or") [.str "less",.str "same"]=false)))
theorem z09{l:AD}{o:HO}(hl:H l=AB):∀b xs,H b=AA (.tup xs)->(upd H l o) b=AA (.tup xs):=λb xs h=>by
 rw[zn (zr h hl)];show h
noncomputable def apf(hs:List Str)(rs:List Int):Cond->Bool->Bool
 | .no _,b=> !b
 | .an _ d,b=>b&&ev hs rs d
 | .or _ d,b=>b||ev hs rs d
 | _,b=>b
noncomputable def wgt:Cond->Nat
 | .an _ d=>d.size+1
 | .or _ d=>d.size+1
 | _=>1
theorem zI.down{p:AD}{x:V}{xs:List V}(hs:List Str)(rs:List Int)(h:zI H c (.ref p))(f:H p=AA (.tup (x::xs)))(lf:c.leaf=false)(ok:c.ok hs):
  ∃(y:V)(r:List V)(d:Cond),xs=y::r/\zI H d y/\d.ok hs/\d.size+wgt c=c.size/\apf hs rs c (ev hs rs d)=ev hs rs c:=by
 cases c with
 | less a b=>cases lf
 | same a b=>cases lf
 | no c=>
  obtain⟨p',y,e,h,h1⟩:=h;cases e;rw[f]at h;cases h;show(_,_,c,rfl,h1,ok,rfl,rfl)
 | an c d=>
  obtain⟨p',y,z,e,h,h1,h2⟩:=h;cases e;rw[f]at h;cases h;show(_,_,c,rfl,h1,ok.1,by simp only[wgt,Cond.size];lia,rfl)
 | or c d=>
  obtain⟨p',y,z,e,h,h1,h2⟩:=h;cases e;rw[f]at h;cases h;show(_,_,c,rfl,h1,ok.1,by simp only[wgt,Cond.size];lia,rfl)
noncomputable def unw(hs:List Str)(rs:List Int)(fs:List (V×Cond))(b:Bool):Bool:=fs.foldr (λf b=>apf hs rs f.2 b) b
noncomputable def wt(fs:List (V×Cond)):Nat:=(fs.map λf=>wgt f.2).sum
theorem z7E(hs:List Str)(rs:List Int)(fs:List (V×Cond))(f:V×Cond)(b:Bool):unw hs rs (fs++[f]) b=unw hs rs fs (apf hs rs f.2 b):=by simp[unw]
theorem za0(fs:List (V×Cond))(f:V×Cond):wt (fs++[f])=wt fs+wgt f.2:=by simp[wt]
theorem zcw:∀fs:List (V×Cond),fs.length<=wt fs
 | []=>wy _
 | f::r=>by
  have h1:=zcw r;have h2:1<=wgt f.2:=by cases f.2<;>simp only[wgt]<;>lia
  have a:wt (f::r)=wgt f.2+wt r:=by simp[wt]
  rw[a,wP]
  lia
end Cn

namespace Rw
open PySem Lake
noncomputable abbrev refs(rs:List (AD×List Int)):List V:=rs.map λr=>V.ref r.1
def RowsAt(H:Hp)(p:AD)(rs:List (AD×List Int)):Prop:=H p=AA (.lst (refs rs))/\∀r∈rs,r.1≠p/\H r.1=AA (.lst (r.2.map V.int))
variable{H:Hp}{p:AD}{rs:List (AD×List Int)}
theorem RowsAt.same{H':Hp}(h:RowsAt H p rs)(e:zw H H'):RowsAt H' p rs:=(e _ _ h.1,λr m=>((h.2 r m).1,e _ _ (h.2 r m).2))
def RowsAt.kp{H':Hp}{l:AD}(h:RowsAt H p rs)(e:Kp l H H')(np:p≠l)(a:∀r∈rs,r.1≠l):RowsAt H' p rs:=(e _ _ np h.1,λr m=>((h.2 r m).1,e _ _ (a r m) (h.2 r m).2))
theorem yG(h:H p=AA (.lst [])):RowsAt H p []:=(h,λv z=>by cases z)
theorem RowsAt.push{q:AD}{x:List Int}(h:RowsAt H p rs)(a:q≠p)(b:H q=AA (.lst (x.map V.int))):
  RowsAt (upd H p (.lst ((refs rs)++[V.ref q]))) p (rs++[(q,x)]):=by
 show(by rw[zm];simp[refs],λr m=>?_);rcases wA.mp m with m|m
 .exact((h.2 r m).1,by rw[zn (h.2 r m).1];show(h.2 r m).2)
 .rw [wm.mp m];show(a,by rw[zn a];show b)
theorem RowsAt.len:(refs rs).length=rs.length:=wa _
variable{i:Nat}
theorem y7(h:i<rs.length):(refs rs)[i]? =AA (V.ref rs[i].1):=by
 rw[wK,wb h]
 rfl
theorem int_at{xs:List Int}(h:i<xs.length):(xs.map V.int)[i]? =AA (.int (xs.getD i 0)):=by
 rw[wK,wb h,wx,wb h]
 rfl
theorem z6z(h:i<rs.length):atI (refs rs) (0+(i:Int))=AA (V.ref rs[i].1):=by
 rw[w0G];show zZ (y7 h)
end Rw

namespace Lake
open PySem PySem.Spec PyProof.Rows
variable{X:Cx}{H:Hp}{kvs:List (Key×V)}
section
variable{A2:List (AD×Obj)}{σ:St}{s:AE}{a:AD}{A:Aj}{E:AC->AE->Prop}
theorem zcW{k:Key}{d:V}{u r:AC}{Q:AC->AE->Prop}(I:Inv X A2 σ H s)(e:H a=AA (.dK kvs))(hl:kvs.length<AI)(o:RelV (kV k) u)(j:RelV d r)
  (h1:∀v f s',yd kvs k=AA v->Inv X A2 σ H s'->RelV v f->Q f s')(h2:∀s',yd kvs k=AB->Inv X A2 σ (upd H a (.dK (putK kvs k d))) s'->Q r s'):
  AT (AV X.prog X.w) A (call (.builtin "dict.setdefault") [.ref a,u,r]) Q E s:=by
 obtain⟨z,hd,vs,b,dd⟩:=zd3 I.hok e;have hz:vs.length<=sizeLine:=by rw[<-b.length];show z
 show call_meetsIn PySem.F.slot_dict_setdefault dd.typeIs PySem.F.entry_dict_setdefault (PySem.F.args_dict_setdefault_3 _ _ _) (kt_meets_setdefault (jC X.prog X.w) a (z7d o) hd r) (vs,dd,hz,λn h=>?_,λhn h' c hs=>?_)
 .have q:=b.val k;rw[h]at q;cases l:yd kvs k with
  | none=>rw[l]at q;show q.elim
  | some v=>rw[l]at q;show h1 v n _ l (I.tok _) q
 .have q:=b.val k;rw[hn]at q;have l:yd kvs k=none:=by
   cases l:yd kvs k with
   | none=>rfl
   | some v=>rw[l]at q;show q.elim
  show h2 _ l ?_;have i:(putK kvs k d).length<=sizeLine:=by have:=ku kvs k d;lia
  have he:∃q,h'.get? a=AA q:=let ⟨q,_,_,hq,_⟩:=c;(q,hq)
  show z6I I (by rw[e];show w0m) hs he (zcl i hd (b.put k j) c)
end
def zfJ(td ty tx:TE):TE:=λσ H Q=>td σ H λx H1=>∃a,x= .ref a/\IsD H1 a/\ty σ H1 λy H2=>tx σ H2 λz b=>∃kvs k,b a=AA (.dK kvs)/\y=kV k/\kvs.length<AI/\
 (∀v,yd kvs k=AA v->Q v b)/\(yd kvs k=AB->Q z (upd b a (.dK (putK kvs k z))))
section
variable{o e f:Expr}{td ty tx:TE}{apos am:Pos}
theorem z8n(p:PE X o td)(he:PE X e ty)(A:PE X f tx)(m:M2 X o "setdefault" apos e f am):PE X (.Call (.Attribute o "setdefault" apos) [e,f] [] am) (zfJ td ty tx):=by
 intro A2 s σ H Q I h;show wpAny_Call_method m.base m.few m.line PySem.F.plainAttrs_dict PySem.F.slot_dict_setdefault PySem.F.type_dict_setdefault (thn (p A2 s σ H _ I h) ?_);rintro u N ⟨x,H1,c,q,a,ex,d,G⟩;subst ex;obtain rfl:u=Value.ref a:=q;obtain⟨r,M,_⟩:=zbZ c d;show(r,M,?_);rw[m.trees];show w1i rfl (w1z (Qu (thn (he A2 N σ H1 _ c G) λR L ⟨y,H2,w,B,D⟩=>
  Qu (thn (A A2 L σ H2 _ w D) λS O ⟨z,t,J,i,kvs,k,ea,C,hl,K,E⟩=>w0n ?_))))
 subst C;show zcW J ea hl B i (λv P j l b n=>(v,t,b,n,K v l)) λj l b=>(z,_,b,i,E l)
end
noncomputable def Itd(d:AD)(o:Obj)(kvs:List (Key×V)):It:=
 (λi H=>H d=AA (.frz o (.dK kvs))/\i<kvs.length,λi H x H'=>H'=H/\∃p,kvs[i]? =AA p/\x=kV p.1,λi H=>H d=AA (.frz o (.dK kvs))/\kvs.length<=i)
variable{P:AM}{w:Av}
theorem zcA{k:Key}{u:AC}(h:(jC P w).is k u=true):RelV (kV k) u:=by
 rcases jE (show z3J k u=true from h)with⟨i,t,rfl,rfl⟩|⟨y,t,rfl,rfl⟩
 .exact(t,rfl)
 .exact(t,rfl)
variable{d:AD}{o:Obj}{es:Array DictEntry}{ep:Nat}
theorem zbm{h:AN}(ok:HOk P w H h)(e:H d=AA (.frz o (.dK kvs)))(f:o.data= .dict es ep):
  ∃vs,KV kvs vs/\h.DictAt (jC P w) d vs ep:=by
 obtain⟨j,z,n,vs,i,dd⟩:=(ok d _ e);obtain⟨q,c⟩:=dd.dictAt;obtain⟨o',p,a,l,b,r⟩:=(id c)
 rw[j]at a;cases a;rw[f]at b
 cases b
 show(vs,i,c)
variable{tg:Expr}
theorem za4{K:W.Frag}(d it:AD)(C:o.data= .dict es ep):
  Turn P w K tg (Itd d o kvs) [it] it (λi h=>h.IsKeyIter it d i kvs.length ep) where
 mem:=by simp
 obj:=λi h st b a=>by
  have e:b=it:=by simpa using a
  subst e;obtain⟨o,e,c,d⟩:=(st);show(o,e,λv z=>by rw[d]at z;cases z)
 keep:=λi h h' st k=>st.at λo e=>k it (by simp) o e
 item:=by
  intro X y t x hc i A2 s σ H E I f st r;subst y t x;obtain⟨A,hi⟩:=r;obtain⟨vs,j,B⟩:=(zbm I.hok A C);have hl:=j.length;obtain⟨f0,f1,f2,l,n,u⟩:=(f it (by simp));obtain⟨p,F⟩:∃p,vs[i]? =AA p:=(vs[i]'(by lia),wb (by lia))
  obtain⟨q,G⟩:∃q,kvs[i]? =AA q:=(kvs[i],wb hi)
  have M:q.1=p.1:=by
   have D:(kvs.map (·.1))[i]? =AA q.1:=by rw[wK,G];rfl
   rw[KV.keys j,wK,F]at D;show(Option.some.inj D).symm
  rw[hl]at st;show wpAny_pyNext_dict_item st B (k:=p.1) (v:=p.2) F λbH h' N ad J=>?_
  have L:Inv X A2 σ H {s with heap:=h'}:=I.turned (t':=s.toks) (λb o a e=>(J.2 b a).trans e) f0 f1 l n u;obtain⟨o',e,c,dt⟩:=(id ad);show(bH,rfl,z7k (s:={s with heap:=h'}) e c dt (by decide) (kV q.1,H,L,?_,(rfl,q,G,rfl),by rw[hl];show ad,λb a=>(f b a).1));rw[M];show zcA N
 done:=by
  intro X y t x hc i A2 s σ H E I f st r;subst y t x;obtain⟨A,hi⟩:=r;obtain⟨vs,j,B⟩:=(zbm I.hok A C);have hl:=j.length;obtain⟨f0,f1,f2,l,n,u⟩:=(f it (by simp));rw[hl]at st;show wpAny_pyNext_dict_end (I.ok.hd hc) st B (w1t (by lia)) λh' O=>(rfl,I.turned (t':=s.toks) (λb o a e=>O b o a e) f0 f1 l n u)
 self:=λm m m m m st h=>wpAny_pyIter_keyiter st h
def zfw(tl:TE):TI:=λσ H R=>tl σ H λx H1=>∃d kvs,x= .ref d/\H1 d=AA (.dK kvs)/\∀o,R (Itd d o kvs) (upd H1 d (.frz o (.dK kvs)))
theorem zdG{l:Expr}{tl:TE}(hl:PE X l tl):PI X tg l (zfw tl):=by
 intro A2 s σ H R I h;show thn (hl A2 s σ H _ I h) ?_;intro v a zz;obtain⟨x,H1,i,r1,w⟩:=(zz);obtain⟨d,kvs,e,j,q⟩:=(w);subst e;cases r1;obtain⟨z,hd,vs,n,dd⟩:=(zd3 i.hok j);obtain⟨ep,p⟩:=dd.dictAt;obtain⟨o,es,f,y,t,_⟩:=(id p)
 show wpAny_pyIter_dict hd p ?_;have c:Inv X A2 σ (upd H1 d (.frz o (.dK kvs))) {a with heap:=a.heap,toks:=a.toks}:=i.write (x:=d) (e:=d) (by rw[j];show w0m) (.inl rfl) (λb u m q=>q) (o,f) (f,z,hd,vs,n,dd);rw[<-n.length];show(a.heap.objs.size,[a.heap.objs.size],_,_,upd H1 d (.frz o (.dK kvs)),rfl,c.kept (t':=a.toks) λb o e=>wo _ e,za4 d _ t,(_,wX _ rfl,rfl,rfl),λb r=>?_,q o);have e:b=a.heap.objs.size:=by simpa using r
 subst e;show c.fpOk (wy _) (c.hok.fresh (wy _))
theorem z8P{σ:St}{ix:List Nat}{te:TE}{Q:List V->Hp->Prop}(a:Nat->List V->Hp->Prop)(h0:a 0 [] H)
  (hl:∀i ys H,i<=kvs.length->a i ys H->H d=AA (.frz o (.dK kvs))/\ys.length<AI)
  (hs:∀(i:Nat) p ys H,kvs[i]? =AA p->a i ys H->te (sub σ ix (AA (kV p.1))) H λy b=>a (i+1) (ys++[y]) b)(hd:∀ys H,a kvs.length ys H->Q ys H):z0p (Itd d o kvs) σ ix z7W te Q H:=by
 show(λi m ys H=>m=kvs.length-i/\i<=kvs.length/\a i ys H,(_,rfl,qN _,h0),?_);rintro i m ys H ⟨rfl,hi,p⟩;obtain⟨q,hz⟩:=hl i ys H hi p;show(hz,?_);by_cases aA:i<kvs.length
 .refine .inr ((q,aA),λy b=>a (i+1) (ys++[y]) b,λH2=>False,λy b z=>(kvs.length-(i+1),by lia,rfl,aA,z),λH2 z=>z.elim,λx H' y=>?_);obtain⟨e,y,f,c⟩:=y;subst e c;show z8z (B:=False) (hs i y ys _ f p)
 .have e:i=kvs.length:=by lia
  subst e;show .inl ((q,wy _),hd ys H p)
end Lake

namespace Lake
open PySem PySem.Spec PyProof.Rows PySem.W
end Lake

namespace Lake
open PySem PySem.Spec PyProof.Rows PySem.W
section
variable{ss:List Str}
theorem z8I:∀{us:List AC},zS (ss.map V.str) us->StrsAre us ss:=by
 induction ss with
 | nil=>intro us r;rw[w1Q]at r;cases r;show .nil
 | cons n ns a=>
  intro us r;rw[qK]at r;cases r with
  | cons r1 r2=>
   obtain⟨t,rfl⟩:=r1;show .cons _ _ (a r2)
variable{X:Cx}
theorem z2a(hc:X.calm=true):kr X (.builtin "sum") (λxs H Q=>∃(a:AD)(ns:List Int),xs= [.ref a]/\SqL X.K H a (ns.map V.int)/\Q (.int ns.sum) H):=by
 intro A2 s σ H xs us Q I r h;obtain⟨a,ns,rfl,j,q⟩:=h;obtain⟨u,rfl,c⟩:=vals1 r;cases c;obtain⟨aa,r',pl,hz⟩:=I.list j;have hi:IntsAre aa.toArray.toList ns:=intsAre_of r';obtain⟨xs,b⟩:=hi.allInts.items;have e:s.heap.IsList a (intItems xs):=b ▸ pl.isList;show sum_intListG (I.ok.hd hc) e λh' tk t' f=>?_
 have d:ns=xs.toList.map (·.1):=by
  rw[<-nums_intItems,<-b];show(show numsOf aa.toArray.toList=ns from hi.numsOf).symm
 have i:preSum (numAt xs) xs.size=ns.sum:=by
  rw[preSum_eq,w1j (by simp),d]
 rw[i];show(.int ns.sum,H,I.kept f,(_,rfl),q)
def zcu(x:V)(z:Str):Prop:=(∃i:Int,x= .int i/\i.natAbs.log2<1920/\z=toString i)\/x= .str z
theorem z2f:kr X (.type "str") (λxs H Q=>∃x z,xs= [x]/\zcu x z/\Q (.str z) H):=by
 intro A2 s σ H xs us Q I r h;obtain⟨x,z,rfl,h,q⟩:=h;rcases h with⟨i,rfl,hi,rfl⟩|rfl
 .exact z6X A2 s σ H _ us Q I r (i,rfl,hi,q)
 .obtain⟨u,rfl,t,rfl⟩:=vals1 r;show PySem.P.str_of_str (.str z,H,I,(_,rfl),q)
def rJoin(K:W.Frag):V->List V->Hp->VK->Prop:=λx vs H Q=>∃z l ys,x= .str z/\vs= [.ref l]/\SqL K H l (ys.map V.str)/\(ys.map (·.length)).sum+ys.length*z.length<=16777216/\Q (.str (Str.join z ys)) H
theorem z9n:MtM X "str.join" (rJoin X.K):=by
 intro A2 s σ H x vs v us Q I a d h;obtain⟨z,l,ys,rfl,rfl,c,hz,q⟩:=h;obtain⟨t,rfl⟩:=a;obtain⟨u,rfl,b⟩:=d.one;cases b;obtain⟨aa,r,pl,hsz⟩:=I.list c;show join_list (items:=aa.toArray) pl.isList (z8I r) hz λt' k=>?_
 have e:Txt.join z ys=Str.join z ys:=StrLaws.glued_eq_join _ _;rw[e];show(.str _,H,I.tok _,(_,rfl),q)
noncomputable def eqL(xs ys:List V):Bool:=decide (xs.length=ys.length)&&(List.range xs.length).all λj=>eqV (xs.getD j .non) (ys.getD j .non)
def zdR(K:W.Frag):R2:=λx y H Q=>∃a b xs ys,x= .ref a/\y= .ref b/\SqL K H a xs/\SqL K H b ys/\xs.all yD=true/\ys.all yD=true/\Q (.bl (eqL xs ys)) H
theorem zaC(L:X.A.units+1<cLine):OpR X (compareOp .Eq) (zdR X.K):=by
 intro A2 s σ H x y v u Q I n z h;have f:X.A.units<cLine:=by lia
 obtain⟨a,b,xs,ys,rfl,rfl,ha,l,p,t,q⟩:=(h);cases n;cases z;obtain⟨aa,r,pl,hz⟩:=(I.list ha);obtain⟨w,r2,i,_⟩:=(I.list l);have l1:=r.length;have l2:=r2.length;by_cases hl:xs.length=ys.length
 .refine SeqAt.eq_listAt (e:=λj=>eqV (xs.getD j .non) (ys.getD j .non)) pl.isList i.isList (by rw[wB,wB];lia) f (λj h1 h2=>?_) ?_
  .have E:j<xs.length:=by rw[wB]at h1;lia
   have C:j<ys.length:=by lia
   have d:xs[j]? =AA xs[j]:=wb E;have c:ys[j]? =AA ys[j]:=wb C;obtain⟨w1,o,J⟩:=(r.get d);obtain⟨w2,B,D⟩:=(r2.get c);have F:aa.toArray[j]=w1:=by rw[w0c];show(we.mp o).2
   have G:w.toArray[j]=w2:=by rw[w0c];show(we.mp B).2
   rw[F,G,wx,wx,d,c];show z6h J D (qU.mp p _ (qB d)) (qU.mp t _ (qB c))
  .refine(.bl (eqL xs ys),H,I,?_,q)
   change Value.bool _=Value.bool _
   rw[eqL,qd hl,w1V,wB,<-l1]
 .refine SeqAt.eq_list_lengthsAt pl.isList i.isList ?_ f (.bl (eqL xs ys),H,I,?_,q)
  .rw [wB,wB,bne_iff_ne,<-l1,<-l2];show hl
  .show Value.bool false=Value.bool _
   rw[eqL,wL hl,w1C]
theorem z50{a:List Str}:eqL (ss.map V.str) (a.map V.str)=decide (ss=a):=by
 unfold eqL;rw[wa,wa];by_cases e:ss=a
 .subst e;rw[qd rfl,qd rfl,w1V,qU];intro j b;rw[w0g]at b;rw[wx,wK,wb b]
  change(ss[j] == ss[j])=true
  show QI _
 .rw [wL e];by_cases hl:ss.length=a.length
  .rw [qd hl,w1V,Qg];intro h;rw[qU]at h;show e (List.ext_getElem hl λj h1 h2=>?_);have:=h j (w0g.mpr h1);rw[wx,wK,wb h1,wx,wK,wb h2]at this;have c:(ss[j] == a[j])=true:=this;show eq_of_beq c
  .rw [wL hl,w1C]
variable{a:AD}{xs:List V}{Q:List V->Hp->Prop}{H:Hp}
theorem zcK{K:W.Frag}{σ:St}{ix:List Nat}{tc:TT}{te:TE}(c:Nat->List V->Hp->Prop)(h0:c 0 [] H)(hl:∀i ys H,i<=xs.length->c i ys H->SqT K H a xs/\ys.length<AI)
  (hs:∀(i:Nat) x ys H,xs[i]? =AA x->c i ys H->tc (sub σ ix (AA x)) H λb H2=>if b=true then te (sub σ ix (AA x)) H2 λy d=>c (i+1) (ys++[y]) d else c (i+1) ys H2)(hd:∀ys H,c xs.length ys H->Q ys H):z0p (Itt K a) σ ix tc te Q H:=by
 show(λi m ys H=>m=xs.length-i/\i<=xs.length/\c i ys H,(_,rfl,qN _,h0),?_);rintro i m ys H ⟨rfl,hi,p⟩;obtain⟨q,hz⟩:=hl i ys H hi p;show(hz,?_);by_cases aA:i<xs.length
 .refine .inr ((xs,xs[i],q,by simp[aA]),λy d=>c (i+1) (ys++[y]) d,λH2=>c (i+1) ys H2,λy d z=>(xs.length-(i+1),by lia,rfl,aA,z),λH2 z=>(xs.length-(i+1),by lia,rfl,aA,z),λx H' y=>?_);obtain⟨e,y⟩:=y;subst e;show hs i x ys _ (y xs q) p
 .have e:i=xs.length:=by lia
  subst e;show .inl ((xs,q,wy _),hd ys H p)
def z3A{K:W.Frag}{σ:St}{ix:List Nat}{te:TE}(b:Nat->List V->Hp->Prop)(h0:b 0 [] H)(hl:∀i ys H,i<=xs.length->b i ys H->SqT K H a xs/\ys.length<AI)
  (hs:∀(i:Nat) x ys H,xs[i]? =AA x->b i ys H->te (sub σ ix (AA x)) H λy c=>b (i+1) (ys++[y]) c)(hd:∀ys H,b xs.length ys H->Q ys H):z0p (Itt K a) σ ix z7W te Q H:=
 zcK b h0 hl (λi x ys H e p=>z8z (A:=te (sub σ ix (AA x)) H λy c=>b (i+1) (ys++[y]) c) (B:=b (i+1) ys H) (hs i x ys H e p)) hd
noncomputable def zaz(a b:Int×Int):Bool:=decide (a.1<b.1\/(a.1=b.1/\a.2<b.2))
theorem zdz{prog:AM}{w:Av}{A:Aj}{s:AE}{x y:AD}{a b c d:Int}{t u v z:Tok}{C:Bool->AE->Prop}{E:AC->AE->Prop}(n:IsTup s.heap x #[.int a t,.int b u])(p:IsTup s.heap y #[.int c v,.int d z])(h:C (zaz (a,b) (c,d)) s):
  AT (AV prog w) A (keyLt' (tuples' true) (.ref x) (.ref y)) C E s:=by
 obtain⟨ox,f,_,B,j⟩:=n;obtain⟨r,l,_,q,o⟩:=p;show kat_lt f j l o ?_;show kat_cons (SeqAt.EqAt.int_int a t c v prog w _ _ (kat_go (λe=>kat_yes ?_) (λe=>kat_no ?_)))
 .have i:a=c:=by simpa using e
  show kat_cons (SeqAt.EqAt.int_int b u d z prog w _ _ (kat_go (λe=>kat_yes (kat_nil ?_)) (λe=>kat_no ?_)))
  .have D:b=d:=by simpa using e
   have:zaz (a,b) (c,d)=false:=wL (by simp only;lia);rw[this]at h
   simpa using h
  .have:zaz (a,b) (c,d)=decide (b<d):=by
    unfold zaz;show decide_eq_decide.mpr (by simp only;lia)
   rw[this]at h;show kat_one _ _ ?_;show PyProof.Rows.lt_int (Q:=PySem.W.BoolBack C) h
 .have i:¬a=c:=by simpa using e
  have:zaz (a,b) (c,d)=decide (a<c):=by
   unfold zaz;show decide_eq_decide.mpr (by simp only;lia)
  rw[this]at h;show oneLt_int h
abbrev PQ:=AD×Int×Int
noncomputable def pq0:PQ:=(0,0,0)
theorem z9z{H:Hp}{s:AE}{A2:List (AD×Obj)}{σ:St}(I:Inv X A2 σ H s){h':AN}(kp:∀b o xs n,s.heap.get? b=AA o->o.data= .seq xs n->o.cls= .type "tuple"->h'.get? b=AA o):∀(ps:List PQ)(us:List AC),(∀p∈ps,H p.1=AA (.tup [.int p.2.1,.int p.2.2]))->zS (ps.map λp=>V.ref p.1) us->
  ∃fs:List AC,KatTups h' us fs/\fs.length=ps.length/\∀v∈fs,∃a t,v=Value.int a t
 | [],us,_,r=>by cases r;show([],.nil,rfl,λv h=>by cases h)
 | p::ps,us,d,r=>by
  rw[qK]at r;cases r with
  | cons r1 r2=>
   cases r1;obtain⟨fs,k,l,hi⟩:=z9z I kp ps _ (λq f=>d q (q5 _ f)) r2;obtain⟨aa,r',pl,_⟩:=I.tuple (SqT.of (d p qI));obtain⟨u,i,rfl,⟨t,rfl⟩,_⟩:=vals2 r';obtain⟨o,e,c,n,hd⟩:=pl;show(.int p.2.1 t::fs,KatTups.cons (kp _ _ _ _ e hd c) c hd rfl k,by rw[wP,l,wP],λv hv=>?_);rcases wF.mp hv with rfl|hv
   .exact(_,_,rfl)
   .exact hi v hv
@[elab_as_elim] theorem z58 {motive:Hp->Prop}  {p:AD} {o:HO} (K:Hp) (e:K=upd H p o) (a:H p=AB) (h:∀H',zw H H'->H' p=AA o->motive H'):motive K:=by
 subst e;show h _ (zE a o) zm
end
section
open PySem PySem.Spec PyProof.Rows
noncomputable def zh0:Bool->Keyed->Array Keyed->Nat->Nat->Nat->StateT SortSt Sem (Option Nat):=sortPriv% PySem.Builtin.gallop
noncomputable def zgu:Array Keyed->Array Keyed->StateT SortSt Sem (Array Keyed):=sortPriv% PySem.Builtin.mergeLo
noncomputable def zgL:Array Keyed->Array Keyed->StateT SortSt Sem (Array Keyed):=sortPriv% PySem.Builtin.mergeHi
variable{a bZ:Array Keyed}{i:Nat}{st ad:SortSt}{α:Type}{bH:Keyed}
section
variable{M:Model}{A:Aj}{E:AC->AE->Prop}{s:AE}{κ:SortKind}{it:Keyed->Prop}
def Cmp(M:Model)(A:Aj)(E:AC->AE->Prop)(s:AE)(κ:SortKind)(it:Keyed->Prop):Prop:=
 ∀(x y:Keyed)(st:SortSt)(Q:Option Bool->SortSt->Prop),it x->it y->kindOf st=κ->(∀b,Q (AA b) st)->wpS M A E s (lt' x y) Q st
set_option tactic.hygienic true in
theorem zf2(hl:Cmp M A E s κ it){left:Bool}{bH:Keyed}{bZ:Array Keyed}{base n hint:Nat}{st:SortSt}{Q:Option Nat->SortSt->Prop}(f:it bH)(o:kindOf st=κ)
  (ha:∀i,i<n->∃x,bZ[base+i]? =AA x/\it x)(q:hint<n)(h:∀k,k<=n->Q (AA k) st):wpS M A E s (zh0 left bH bZ base n hint) Q st:=by
 have beyond:∀(i:Nat)(R:Option Bool->SortSt->Prop),i<n->(∀b,R (AA b) st)->wpS M A E s (do
   let x<-elem' bZ (base+i)
   if left then lt' x bH else return (<-lt' bH x).map (!·)) R st:=λi R hi j=>by
  obtain⟨x,e,l⟩:=ha i hi;rw[elem'_eq,e];show qJ (qE ?_);cases left
  .exact qJ (hl _ _ _ _ f l o λb=>qE (j _))
  .exact hl _ _ _ _ l f o λb=>j b
 show qJ (beyond hint _ q λright=>?_);dsimp only;cases right
 all_goals
  show qJ (w1c (Qy (Q:=λc ad=>ad=st/\c.1=AB) (λv c ad=>ad=st/\c.1=AB) ?_ (λv v z=>z) (rfl,rfl)) ?_)
  .rintro x ⟨_,p,r⟩ ad _ _ ⟨rfl,rfl⟩;dsimp only;split
   .exact qE (rfl,rfl)
   .refine qJ (beyond _ _ (by lia) λb=>?_);dsimp only;split<;>show qE (rfl,rfl)
  .rintro⟨_,p,r⟩ ad ⟨rfl,rfl⟩;dsimp only;show qJ (w1c (Qy (Q:=λc a=>a=ad/\c.1=AB/\c.2.2<=n) (λv c a=>a=ad/\c.1=AB/\c.2.2<=n) ?_ (λv v z=>z) (rfl,rfl,by dsimp only;lia)) ?_)
   .rintro x ⟨_,lo,hi⟩ a _ _ ⟨rfl,rfl,d⟩;dsimp only at d ⊢;split
    .exact qE (rfl,rfl,d)
    .refine qJ (beyond _ _ (by lia) λb=>?_);dsimp only;split<;>show qE (rfl,rfl,by dsimp only;lia)
   .rintro⟨_,lo,hi⟩ a ⟨rfl,rfl,d⟩;show qE (h _ d)
def All(it:Keyed->Prop)(a:Array Keyed):Prop:=∀x∈a,it x
theorem All.at(h:All it a)(hi:i<a.size):∃x,a[i]? =AA x/\it x:=(a[i],Array.getElem?_eq_getElem hi,h _ (Array.getElem_mem hi))
theorem All.push{x:Keyed}(h:All it a)(b:it x):All it (a.push x):=λy c=>by
 rcases Array.mem_push.mp c with z|z
 .exact h y z
 .rw [z];show b
theorem All.app{b:Array Keyed}(h:All it a)(g:All it b):All it (a++b):=λy c=>(Array.mem_append.mp c).elim (h y) (g y)
theorem All.ext(h:All it a)(i j:Nat):All it (a.extract i j):=λy b=>by
 obtain⟨k,c,rfl⟩:=Array.mem_extract_iff_getElem.mp b;show h _ (Array.getElem_mem _)
theorem All.rev(h:All it a):All it a.reverse:=λy b=>h y (Array.mem_reverse.mp b)
structure Gm(st ad:SortSt):Prop where
 k:kindOf ad=kindOf st
 a:arrOf ad=arrOf st
 p:pendingOf ad=pendingOf st
 f:failedOf ad=failedOf st
def Gm.refl(st:SortSt):Gm st st:=(rfl,rfl,rfl,rfl)
theorem Gm.set(h:Gm st ad)(g:Nat):Gm st (SortSt.mk' (kindOf ad) (arrOf ad) (pendingOf ad) g (failedOf ad)):=(h.k,h.a,h.p,h.f)
variable{R:α->SortSt->Prop}
theorem kR{c:Array Keyed}{f:Keyed->StateT SortSt Sem α}(hc:All it c)(hi:i<c.size)(k:∀x,it x->wpS M A E s (f x) R st):wpS M A E s ((sortPriv% PySem.Builtin.elem) c i >>= f) R st:=by
 obtain⟨x,e,a⟩:=hc.at hi
 change wpS M A E s (elem' c i >>= f) R st
 rw[elem'_eq,e];show qJ (qE (k x a))
variable{b:StateT SortSt Sem α}
theorem z0u{j:Nat}{a:StateT SortSt Sem α}(h1:i=j->wpS M A E s a R st)(h2:i≠j->wpS M A E s b R st):wpS M A E s (if(i == j)=true then a else b) R st:=by
 by_cases e:i=j
 .rw [qc (by rw[e];show QI j)];show h1 e
 .rw [wW (by rw[Qb];show e)];show h2 e
theorem yQ{c:Prop}[Decidable c]{a:StateT SortSt Sem α}(h1:c->wpS M A E s a R st)(h2:¬c->wpS M A E s b R st):wpS M A E s (if c then a else b) R st:=by
 by_cases e:c
 .rw [qc e];show h1 e
 .rw [wW e];show h2 e
def z4e{g:Nat}{f:Unit->StateT SortSt Sem α}(h:Gm st ad)(k:∀a,Gm st a->wpS M A E s (f ()) R a):wpS M A E s ((sortPriv% PySem.Builtin.setMinGallop) g >>= f) R ad:=qJ (w2d (k _ (h.set g)))
variable{f:Option Nat->StateT SortSt Sem α}
theorem zdd{left:Bool}{base n hint:Nat}(hl:Cmp M A E s κ it)(a:kindOf st=κ)(b:Gm st ad)(d:it bH)(ha:All it bZ)(e:base+n<=bZ.size)(c:hint<n)
  (k:∀j,j<=n->wpS M A E s (f (AA j)) R ad):wpS M A E s ((sortPriv% PySem.Builtin.gallop) left bH bZ base n hint >>= f) R ad:=
 qJ (zf2 hl d (b.k.trans a) (λi hi=>ha.at (by lia)) c k)
theorem zeh{left:Bool}(hl:Cmp M A E s κ it)(a:kindOf st=κ)(b:Gm st ad)(c:it bH)(ha:All it bZ)(h:i<bZ.size)
  (k:∀j,j<=bZ.size-i->wpS M A E s (f (AA j)) R ad):wpS M A E s ((sortPriv% PySem.Builtin.gallop) left bH bZ i (bZ.size-i) 0 >>= f) R ad:=zdd hl a b c ha (by lia) (by lia) k
theorem zeb{left:Bool}{n:Nat}(hl:Cmp M A E s κ it)(a:kindOf st=κ)(b:Gm st ad)(c:it bH)(ha:All it bZ)(h1:0<n)(h:n<=bZ.size)
  (k:∀j,j<=n->wpS M A E s (f (AA j)) R ad):wpS M A E s ((sortPriv% PySem.Builtin.gallop) left bH bZ 0 n (n-1) >>= f) R ad:=zdd hl a b c ha (by lia) (by lia) k
def zfD{x y:Keyed}{f:Option Bool->StateT SortSt Sem α}(hl:Cmp M A E s κ it)(c:kindOf st=κ)(d:Gm st ad)(a:it x)(e:it y)(k:∀b,wpS M A E s (f (AA b)) R ad):wpS M A E s ((sortPriv% PySem.Builtin.lt) x y >>= f) R ad:=
 qJ (hl x y ad _ a e (d.k.trans c) k)
structure MI(it:Keyed->Prop)(st:SortSt)(B:Nat->Nat->Prop)(out:Array Keyed)(ia ib:Nat)(ad:SortSt):Prop where
 g:Gm st ad
 o:All it out
 b:B ia ib
inductive MR(it:Keyed->Prop)(st:SortSt)(B:Nat->Nat->Prop)(r:Option (Array Keyed))(out:Array Keyed)(ia ib:Nat)(ad:SortSt):Prop
 | ret:Gm st ad->∀z,r=AA z->All it z->MR it st B r out ia ib ad
 | on:r=AB->MI it st B out ia ib ad->MR it st B r out ia ib ad
def wpR{m:StateT SortSt Sem α}(L:(α->SortSt->Prop)->Prop)(h:L R)(k:∀R,L R->wpS M A E s m R st):wpS M A E s m R st:=k R h
structure LR(it:Keyed->Prop)(st:SortSt)(B C:Nat->Nat->Prop){σ:Type}(o:σ->Array Keyed)(p q:σ->Nat)(R:ForInStep (Option (Array Keyed)×σ)->SortSt->Prop):Prop where
 d:∀z c ad,Gm st ad->All it z->R (.done (AA z,c)) ad
 n:∀c ad,MI it st B (o c) (p c) (q c) ad->R (.done (AB,c)) ad
 y:∀c ad,MI it st C (o c) (p c) (q c) ad->R (.yield (AB,c)) ad
abbrev LoB(a b:Array Keyed)(n x y:Nat):Prop:=x+1<a.size/\y<b.size/\n<=x+y
abbrev HiB(a b:Array Keyed)(n x y:Nat):Prop:=0<x/\1<y/\x<=a.size/\y<=b.size/\n+x+y<=a.size+b.size
local macro_rules | `(tactic| walk_at "all")=>`(tactic| with_reducible (repeat' first | assumption | refine All.app ?_ ?_ | refine All.push ?_ ?_ | refine All.ext ?_ _ _ | refine All.rev ?_))
local macro_rules | `(tactic| walk_at "go")=>`(tactic| repeat' first
 | (with_reducible show z0u (λ_=>?_) λ_=>?_)
 | (with_reducible show yQ (λ_=>?_) λ_=>?_)
 | ((with_reducible show qE ?_);first
  | show LR.d (by assumption) _ _ _ (by assumption) (by walk_at "all")
  | show LR.n (by assumption) _ _ (by assumption,by walk_at "all",by dsimp only[LoB,HiB];and_intros<;>lia)
  | show LR.y (by assumption) _ _ (by assumption,by walk_at "all",by dsimp only[LoB,HiB];and_intros<;>lia))
 | (with_reducible show kR (by assumption) (by lia) λ_ _=>?_))
theorem zeJ(hl:Cmp M A E s κ it){a b:Array Keyed}{st:SortSt}{Q:Array Keyed->SortSt->Prop}(H:kindOf st=κ)(ha:All it a)(p:All it b)(fV:1<=a.size)(N:1<=b.size)
  (h:∀out ad,Gm st ad->All it out->Q out ad):wpS M A E s (zgu a b) Q st:=by
 show qJ (wpS_lift (w1R (rfl,?_)));show kR p N λO F=>?_
 have P:All it #[O]:=λy hy=>by rw[show y=O by simpa using hy];show F
 show z0u (λv=>qE (h _ _ (.refl _) (by walk_at "all"))) λY=>z0u (λv=>qE (h _ _ (.refl _) (by walk_at "all"))) λS=>?_
 show qJ (w2j ?_);show qJ (w1c (Qy (Q:=λc ad=>Gm st ad/\∃z,c.1=AA z/\All it z) (λi c ad=>c.1=AB/\MI it st (LoB a b (i+1)) c.2.1 c.2.2.1 c.2.2.2.1 ad) ?_ ?_ (rfl,.refl _,P,by dsimp only[LoB];and_intros<;>lia)) ?_)
 .clear Y S fV N;rintro i c K - - ⟨-,T⟩;show qJ (w1c (Qy (Q:=λc ad=>MR it st (LoB a b (i+2)) c.1 c.2.1 c.2.2.1 c.2.2.2.1 ad) (λj c ad=>c.1=AB/\MI it st (LoB a b (i+1+j)) c.2.1 c.2.2.1 c.2.2.2.1 ad) ?_ ?_ (rfl,T)) ?_)
  .rintro j c B - - ⟨-,D⟩;show wpR (LR it st (LoB a b (i+2)) (LoB a b (i+1+(j+1))) (λc=>c.1) (λc=>c.2.1) (λc=>c.2.2.1)) (λz v v g hz=>MR.ret g z rfl hz,λv v I=>MR.on rfl I,λv v I=>And.intro rfl I) λR q=>?_
   extract_lets s0 out s1 f s2 l s3 ac bc
   obtain⟨g,o,y⟩:MI it st (LoB a b (i+1+j)) out f l B:=D
   clear_value out f l ac bc
   dsimp only[LoB]at y;show kR p (by lia) λu U=>kR ha (by lia) λv G=>zfD hl H g U G λw=>?_
   dsimp only
   walk_at "go"
  .rintro c B ⟨_,g,o,y⟩;dsimp only[LoB]at y
   lia
  .rintro⟨r,c⟩ B C;rcases C with⟨g,z,e,hz⟩|⟨e,D⟩<;>dsimp only at e<;>subst e
   .exact qE (g,z,rfl,hz)
   .refine qJ (wpS_lift (w1R (rfl,?_)));show qJ (w1c (Qy (Q:=λc ad=>MR it st (LoB a b (i+2)) c.1 c.2.1 c.2.2.1 c.2.2.2.1 ad) (λj c ad=>c.1=AB/\MI it st (LoB a b (i+2+j)) c.2.1 c.2.2.1 c.2.2.2.1 ad) ?_ ?_ (rfl,D)) ?_)
    .rintro j c L - - ⟨-,I3⟩;show wpR (LR it st (LoB a b (i+2)) (LoB a b (i+2+(j+1))) (λc=>c.1) (λc=>c.2.1) (λc=>c.2.2.1)) (λz v v g hz=>MR.ret g z rfl hz,λv v I=>MR.on rfl I,λv v I=>And.intro rfl I) λR q=>?_
     extract_lets s0 out s1 f s2 l s3 mg s4 ac bc ib1 jp mg1
     obtain⟨g,o,y⟩:MI it st (LoB a b (i+2+j)) out f l L:=I3;have X:ib1=l+1:=rfl
     clear_value out f l ac bc ib1 mg mg1
     dsimp only[LoB]at y;have J:∀mg ad,Gm st ad->wpS M A E s (jp () mg) R ad:=by
      intro mg ad g;show z4e g λad g=>kR p y.2.1 λx t=>zeh hl H g t ha (Nat.lt_of_succ_lt y.1) λk hk=>?_
      dsimp -zeta only
      extract_lets ac1 jp2 out2 ia2
      have o2:All it out2:= .app o (.ext ha _ _);have e2:ia2=f+k:=rfl
      clear_value out2 ia2 ac1
      have J:∀out f ad,Gm st ad->All it out->f+1<a.size/\i+2+j<=f+l->wpS M A E s (jp2 () out f) R ad:=by
       intro out f ad g o z;show kR p y.2.1 λx t=>z0u (λv=>qE (q.d _ _ _ g (by walk_at "all"))) λn=>kR ha (Nat.lt_of_succ_lt z.1) λv G=>zeh hl H g G p (Nat.lt_of_le_of_ne (X ▸ y.2.1) n) λk hk=>?_
       dsimp -zeta only
       extract_lets bc1 ia1 jp3 out3 ib3
       have Z:All it out3:= .app (.push o t) (.ext p _ _);have e3:ib3=ib1+k:=rfl;have e4:ia1=f+1:=rfl
       clear_value out3 ib3 bc1 ia1
       have J:∀out l ad,Gm st ad->All it out->l<b.size/\i+2+j+1<=f+l->wpS M A E s (jp3 () out l) R ad:=by
        intro out l ad g o w;show kR ha (Nat.lt_of_succ_lt z.1) λx t=>?_
        dsimp only
        walk_at "go"
       show yQ (λv=>z0u (λv=>qE (q.d _ _ _ g (by walk_at "all"))) λv=>J _ _ _ g Z (by and_intros<;>lia)) λv=>J _ _ _ g (.push o t) (by and_intros<;>lia)
      show yQ (λv=>z0u (λv=>qE (q.d _ _ _ g (by walk_at "all"))) λv=>z0u (λv=>qE (q.d _ _ _ g (by walk_at "all"))) λv=>J _ _ _ g o2 (by and_intros<;>lia)) λv=>J _ _ _ g o (by and_intros<;>lia)
     show yQ (λv=>J _ _ g) λv=>J _ _ g
    .rintro c B ⟨_,g,o,y⟩;dsimp only[LoB]at y
     lia
    .rintro⟨r,c⟩ L C;rcases C with⟨g,z,e,hz⟩|⟨e,g,o,y⟩<;>dsimp only at e<;>subst e
     .exact qE (g,z,rfl,hz)
     .exact z4e g λb7 g4=>qE (rfl,g4,o,by dsimp only[LoB]at y ⊢;lia)
 .rintro c K ⟨_,g,o,y⟩;dsimp only[LoB]at y
  lia
 .rintro⟨r,c⟩ K ⟨g,z,e,hz⟩;dsimp only at e;subst e;show qE (h _ _ g hz)
theorem zeY(hl:Cmp M A E s κ it){a b:Array Keyed}{st:SortSt}{Q:Array Keyed->SortSt->Prop}(G:kindOf st=κ)(ha:All it a)(n:All it b)(fV:1<=a.size)(nA:1<=b.size)
  (h:∀out ad,Gm st ad->All it out->Q out ad):wpS M A E s (zgL a b) Q st:=by
 show qJ (wpS_lift (w1R (rfl,?_)));show kR ha (by lia) λL D=>?_
 have N:All it #[L]:=λy hy=>by rw[show y=L by simpa using hy];show D
 show z0u (λv=>qE (h _ _ (.refl _) (by walk_at "all"))) λT=>z0u (λv=>qE (h _ _ (.refl _) (by walk_at "all"))) λO=>?_
 show qJ (w2j ?_);show qJ (w1c (Qy (Q:=λc ad=>Gm st ad/\∃z,c.1=AA z/\All it z) (λi c ad=>c.1=AB/\MI it st (HiB a b (i+1)) c.2.2.2.1 c.2.1 c.2.2.1 ad) ?_ ?_ (rfl,.refl _,N,by dsimp only[HiB];and_intros<;>lia)) ?_)
 .clear T O fV nA;rintro i c H - - ⟨-,P⟩;show qJ (w1c (Qy (Q:=λc ad=>MR it st (HiB a b (i+2)) c.1 c.2.2.2.1 c.2.1 c.2.2.1 ad) (λj c ad=>c.1=AB/\MI it st (HiB a b (i+1+j)) c.2.2.2.1 c.2.1 c.2.2.1 ad) ?_ ?_ (rfl,P)) ?_)
  .rintro j c t - - ⟨-,C⟩;show wpR (LR it st (HiB a b (i+2)) (HiB a b (i+1+(j+1))) (λc=>c.2.2.1) (λc=>c.1) (λc=>c.2.1)) (λz v v g hz=>MR.ret g z rfl hz,λv v I=>MR.on rfl I,λv v I=>And.intro rfl I) λR p=>?_
   extract_lets s0 f s1 l s2 out s3 ac bc
   obtain⟨g,o,y⟩:MI it st (HiB a b (i+1+j)) out f l t:=C
   clear_value out f l ac bc
   dsimp only[HiB]at y;show kR n (by lia) λu S=>kR ha (by lia) λv F=>zfD hl G g S F λw=>?_
   dsimp only
   walk_at "go"
  .rintro c t ⟨_,g,o,y⟩;dsimp only[HiB]at y
   lia
  .rintro⟨r,c⟩ t B;rcases B with⟨g,z,e,hz⟩|⟨e,C⟩<;>dsimp only at e<;>subst e
   .exact qE (g,z,rfl,hz)
   .refine qJ (wpS_lift (w1R (rfl,?_)));show qJ (w1c (Qy (Q:=λc ad=>MR it st (HiB a b (i+2)) c.1 c.2.2.2.1 c.2.1 c.2.2.1 ad) (λj c ad=>c.1=AB/\MI it st (HiB a b (i+2+j)) c.2.2.2.1 c.2.1 c.2.2.1 ad) ?_ ?_ (rfl,C)) ?_)
    .rintro j c K - - ⟨-,I3⟩;show wpR (LR it st (HiB a b (i+2)) (HiB a b (i+2+(j+1))) (λc=>c.2.2.1) (λc=>c.1) (λc=>c.2.1)) (λz v v g hz=>MR.ret g z rfl hz,λv v I=>MR.on rfl I,λv v I=>And.intro rfl I) λR p=>?_
     extract_lets s0 f s1 l s2 out s3 mg s4 ac bc ib1 jp mg1
     obtain⟨g,o,y⟩:MI it st (HiB a b (i+2+j)) out f l K:=I3;have e1:ib1+1=l:=Nat.sub_add_cancel (w1M y.2.1)
     clear_value out f l ac bc ib1 mg mg1
     dsimp only[HiB]at y;have J:∀mg ad,Gm st ad->wpS M A E s (jp () mg) R ad:=by
      intro mg ad g;show z4e g λad g=>kR n (by lia) λx q=>zeb hl G g q ha y.1 y.2.2.1 λk Z=>?_
      dsimp -zeta only
      extract_lets k1 ac1 jp2 out2 ia2
      have Y:All it out2:= .app o (.rev (.ext ha _ _));have e2:ia2=k:=rfl
      clear_value out2 ia2 ac1 k1
      have J:∀f out ad,Gm st ad->All it out->0<f/\f<=a.size/\i+2+j+f+l<=a.size+b.size->wpS M A E s (jp2 () f out) R ad:=by
       intro f out ad g o z;show kR n (by lia) λx q=>z0u (λv=>qE (p.d _ _ _ g (by walk_at "all"))) λv=>kR ha (Nat.sub_one_lt_of_le z.1 z.2.1) λv F=>zeb hl G g F n (by lia) (by lia) λk Z=>?_
       dsimp -zeta only
       extract_lets k2 bc1 ia1 jp3 out3 ib3
       have U:All it out3:= .app (.push o q) (.rev (.ext n _ _));have e3:ib3=k:=rfl;have e4:ia1+1=f:=Nat.sub_add_cancel z.1
       clear_value out3 ib3 bc1 ia1 k2
       have J:∀l out ad,Gm st ad->All it out->1<l/\l<=b.size/\i+2+j+1+f+l<=a.size+b.size->wpS M A E s (jp3 () l out) R ad:=by
        intro l out ad g o z;show kR ha (by lia) λx q=>?_
        dsimp only
        walk_at "go"
       show yQ (λv=>z0u (λv=>qE (p.d _ _ _ g (by walk_at "all"))) λv=>z0u (λv=>qE (p.d _ _ _ g (by walk_at "all"))) λv=>J _ _ _ g U (by and_intros<;>lia)) λv=>J _ _ _ g (.push o q) (by and_intros<;>lia)
      show yQ (λv=>z0u (λv=>qE (p.d _ _ _ g (by walk_at "all"))) λv=>J _ _ _ g Y (by and_intros<;>lia)) λv=>J _ _ _ g o (by and_intros<;>lia)
     show yQ (λv=>J _ _ g) λv=>J _ _ g
    .rintro c t ⟨_,g,o,y⟩;dsimp only[HiB]at y
     lia
    .rintro⟨r,c⟩ K B;rcases B with⟨g,z,e,hz⟩|⟨e,g,o,y⟩<;>dsimp only at e<;>subst e
     .exact qE (g,z,rfl,hz)
     .exact z4e g λb7 X=>qE (rfl,X,o,by dsimp only[HiB]at y ⊢;lia)
 .rintro c H ⟨_,g,o,y⟩;dsimp only[HiB]at y
  lia
 .rintro⟨r,c⟩ H ⟨g,z,e,hz⟩;dsimp only at e;subst e;show qE (h _ _ g hz)
end
end
section
open PySem PySem.Spec PyProof.Rows
variable{i j:Nat}
section
variable{M:Model}{A:Aj}{E:AC->AE->Prop}{s:AE}{κ:SortKind}{it:Keyed->Prop}{n:Nat}{st ad:SortSt}{α:Type}{R:α->SortSt->Prop}
structure SA(it:Keyed->Prop)(n:Nat)(st ad:SortSt):Prop where
 k:kindOf ad=kindOf st
 p:pendingOf ad=pendingOf st
 f:failedOf ad=failedOf st
 z:(arrOf ad).size=n
 a:All it (arrOf ad)
def All.perm{a b:Array Keyed}(h:All it a)(p:b.Perm a):All it b:=λy c=>h y (p.mem_iff.mp c)
theorem wp_at{f:Option Bool->StateT SortSt Sem α}(hl:Cmp M A E s κ it)(d:kindOf st=κ)(h:SA it n st ad)(hi:i<n)(e:j<n)(k:∀b,wpS M A E s (f (AA b)) R ad):wpS M A E s ((sortPriv% PySem.Builtin.ltAt) i j >>= f) R ad:=by
 show qJ (show wpS M A E s (ltAt' i j) _ ad from ?_);rw[ltAt'_eq];show qJ (w2j ?_);show kR h.a (by rw[h.z];show hi) λx c=>kR h.a (by rw[h.z];show e) λy l=>hl x y ad _ c l (h.k.trans d) k
variable{f:Unit->StateT SortSt Sem α}
theorem z6O(h:SA it n st ad)(k:∀b,SA it n st b->wpS M A E s (f ()) R b):wpS M A E s ((sortPriv% PySem.Builtin.reverseSlice) i j >>= f) R ad:=by
 show qJ (show wpS M A E s (reverseSlice' i j) _ ad from ?_);rw[reverseSlice'_eq];show w2d (k _ (h.k,h.p,h.f,(mirror_size _ _ _ _).trans h.z,h.a.perm (mirror_perm _ _ _ _)))
theorem zfC(h:SA it n st ad)(k:∀b,SA it n st b->wpS M A E s (f ()) R b):wpS M A E s ((sortPriv% PySem.Builtin.moveDown) i j >>= f) R ad:=by
 show qJ (show wpS M A E s (moveDown' i j) _ ad from ?_);rw[moveDown'_eq];show w2d (k _ (h.k,h.p,h.f,(bubble_size _ _ _).trans h.z,h.a.perm (bubble_perm _ _ _)))
theorem zeq{lo m ok:Nat}{Q:Bool->SortSt->Prop}(hl:Cmp M A E s κ it)(t:kindOf st=κ)(h:SA it n st ad)(hm:lo+m<=n)(k:∀a,SA it n st a->Q true a):wpS M A E s ((sortPriv% PySem.Builtin.binarySort) lo m ok) Q ad:=by
 show qJ (w1c (Qy (Q:=λc a=>c.1=AB/\SA it n st a) (λi c a=>c.1=AB/\SA it n st a) ?_ (λv v z=>z) (rfl,h)) ?_)
 .rintro x ⟨_,_⟩ o h1 w ⟨rfl,f⟩;dsimp only;show qJ (w1c (Qy (Q:=λc a=>c.1=AB/\c.2.2<=x/\SA it n st a) (λi c a=>c.1=AB/\c.2.2<=x/\SA it n st a) ?_ (λv v z=>z) (rfl,wy _,f)) ?_)
  .rintro j ⟨_,l,r⟩ q _ _ ⟨rfl,e,d⟩;dsimp only at e ⊢;show yQ (λv=>qE (rfl,e,d)) λc=>wp_at hl t d (by lia) (by lia) λb=>?_
   dsimp only;show yQ (λv=>qE (rfl,by dsimp only;lia,d)) λv=>qE (rfl,e,d)
  .rintro⟨_,l,r⟩ q ⟨rfl,e,d⟩;dsimp only;show zfC d λu p=>qE (rfl,p)
 .rintro⟨_,_⟩ o ⟨rfl,f⟩;show qE (k _ f)
theorem zby{lo m:Nat}{Q:Option Nat->SortSt->Prop}(hl:Cmp M A E s κ it)(u:kindOf st=κ)(h:SA it n st ad)(h1:1<=m)(hm:lo+m<=n)(k:∀j a,1<=j->j<=m->SA it n st a->Q (AA j) a):wpS M A E s ((sortPriv% PySem.Builtin.countRun) lo m) Q ad:=by
 show qJ (w1c (Qy (Q:=λc a=>c.1=AB/\1<=c.2/\c.2<=m/\SA it n st a) (λi c a=>c.1=AB/\c.2=i/\SA it n st a) ?_ ?_ (rfl,rfl,h)) ?_)
 .rintro x ⟨_,_⟩ D l t ⟨rfl,rfl,f⟩;dsimp only at l t ⊢;show wp_at hl u f (by lia) (by lia) λb=>?_
  dsimp only;show yQ (λv=>qE (rfl,l,by dsimp only;lia,f)) λv=>qE (rfl,rfl,f)
 .rintro⟨_,_⟩ D ⟨rfl,rfl,f⟩;show(rfl,by dsimp only;lia,by dsimp only;lia,f)
 .rintro⟨_,j⟩ D ⟨rfl,w,B,f⟩;dsimp only at w B
  dsimp -zeta only
  extract_lets r0 j0 j1 q0 jp
  have H:j≠m->∀C,SA it n st C->wpS M A E s (jp ()) Q C:=λne C P=>by
   show qJ (wpS_lift (w1R (rfl,?_)));show qJ (w1c (Qy (Q:=λc a=>c.1=AB/\1<=c.2.1/\c.2.1<=m/\SA it n st a) (λi c a=>c.1=AB/\c.2.1=i/\SA it n st a) ?_ ?_ (rfl,rfl,P)) ?_)
   .rintro x ⟨_,y,q⟩ F l t ⟨rfl,rfl,d⟩;have l:j+1<=y:=l;dsimp only at t ⊢;show wp_at hl u d (by lia) (by lia) λb=>?_
    dsimp only;show yQ (λv=>yQ (λv=>z6O d λr o=>qE (rfl,rfl,o)) λv=>qE (rfl,rfl,d)) λv=>wp_at hl u d (by lia) (by lia) λT=>?_
    dsimp only;show yQ (λv=>qE (rfl,by dsimp only;lia,by dsimp only;lia,d)) λv=>qE (rfl,rfl,d)
   .rintro⟨_,y,q⟩ F ⟨rfl,e,d⟩;have e:y=max (j+1) m:=e;show(rfl,by dsimp only;lia,by dsimp only;lia,d)
   .rintro⟨_,y,q⟩ F ⟨rfl,L,R,d⟩;dsimp only at L R
    dsimp -zeta only
    extract_lets r1 y1 q1 jp2
    have I:∀r,SA it n st r->wpS M A E s (jp2 ()) Q r:=λr o=>by
     show z6O o λS O=>?_
     show qJ (w1c (Qy (Q:=λc a=>c.1=AB/\1<=c.2/\c.2<=m/\SA it n st a) (λi c a=>c.1=AB/\c.2=i/\SA it n st a) ?_ ?_ (rfl,rfl,O)) ?_)
     .rintro x ⟨_,z⟩ J l t ⟨rfl,rfl,p⟩;have l:y<=z:=l;dsimp only at t ⊢;show wp_at hl u p (by lia) (by lia) λb=>?_
      dsimp only;show yQ (λv=>qE (rfl,by dsimp only;lia,by dsimp only;lia,p)) λv=>qE (rfl,rfl,p)
     .rintro⟨_,z⟩ J ⟨rfl,e,p⟩;have e:z=max y m:=e;show(rfl,by dsimp only;lia,by dsimp only;lia,p)
     .rintro⟨_,z⟩ J ⟨rfl,K,N,p⟩;show qE (k _ _ K N p)
    clear_value jp2
    show yQ (λv=>z6O d λr o=>I _ o) λv=>I _ d
  clear_value jp
  show z0u (λv=>qE (k _ _ w B f)) λG=>yQ (λg=>wp_at hl u f (by change lo<n;lia) (by change lo+j-1<n;lia) λb=>?_) λv=>H G _ f
  show yQ (λv=>qE (k _ _ w B f)) λv=>z6O f λr o=>H G _ o
end
end
section
open PySem PySem.Spec PyProof.Rows
def Ch:Nat->List (Nat×Nat×Nat)->Nat->Prop
 | a,[],b=>a=b
 | a,x::l,b=>x.1=a/\1<=x.2.1/\Ch (a+x.2.1) l b
theorem Ch.app:∀{l d:List (Nat×Nat×Nat)} {a b:Nat},Ch a (l++d) b↔∃c,Ch a l c/\Ch c d b
 | [],d,a,b=>(λh=>(a,rfl,h),λ⟨c,e,h⟩=>by rw[show a=c from e];show h)
 | x::l,d,a,b=>by
  change(_/\_/\Ch _ (l++d) b)↔_
  rw[Ch.app];constructor
  .rintro⟨h1,h2,c,i,f⟩;show(c,(h1,h2,i),f)
  .rintro⟨c,⟨h1,h2,i⟩,f⟩;show(h1,h2,c,i,f)
theorem Ch.le:∀{l:List (Nat×Nat×Nat)} {a b:Nat},Ch a l b->a+l.length<=b
 | [],a,b,h=>by rw[show a=b from h];show wy _
 | x::l,a,b,(h1,h2,c)=>by have:=c.le;rw[wP];lia
variable{α:Type}{i:Nat}
theorem zet{l:List α}(h:i+1<l.length):∃l1 x y l2,l=l1++x::y::l2/\l1.length=i:=by
 show(l.take i,l[i],l[i+1],l.drop (i+2),?_,by rw[qi];lia);rw[<-w01,<-w01,List.take_append_drop]
theorem Ch.mod{f:Nat×Nat×Nat->Nat×Nat×Nat}(c:∀x,(f x).1=x.1/\(f x).2.1=x.2.1):∀{l:List (Nat×Nat×Nat)} {i a b:Nat},Ch a l b->Ch a (l.modify i f) b
 | [],i,a,b,h=>by rw[List.modify_nil];show h
 | x::l,0,a,b,(h1,h2,d)=>by
  rw[List.modify_zero_cons];show((c x).1.trans h1,by rw[(c x).2];show h2,by rw[(c x).2];show d)
 | x::l,i+1,a,b,(h1,h2,d)=>by
  rw[List.modify_succ_cons];show(h1,h2,Ch.mod c d)
section
variable{M:Model}{A:Aj}{E:AC->AE->Prop}{s:AE}{κ:SortKind}{it:Keyed->Prop}{n lo:Nat}{st:SortSt}
structure SQ(it:Keyed->Prop)(κ:SortKind)(n lo:Nat)(st:SortSt):Prop where
 k:kindOf st=κ
 f:failedOf st=AB
 z:(arrOf st).size=n
 a:All it (arrOf st)
 c:Ch 0 (pendingOf st).toList lo
theorem All.puts{b:Array Keyed}(sa:Nat):∀{l:List (Keyed×Nat)} {a:Array Keyed},All it a->(∀p∈l,it p.1)->All it (l.foldl (λa (p,j)=>a.setIfInBounds (sa+j) p) a)
 | [],a,h,_=>h
 | x::l,a,h,g=>by
  show All.puts (b:=b) sa (a:=a.setIfInBounds (sa+x.2) x.1) (λy d=>?_) λp c=>g p (q5 _ c)
  rcases Array.mem_or_eq_of_mem_setIfInBounds d with z|z
  .exact h y z
  .rw [z];show g x qI
theorem z65(sa:Nat):∀{l:List (Keyed×Nat)} {a:Array Keyed},(l.foldl (λa (p,j)=>a.setIfInBounds (sa+j) p) a).size=a.size
 | [],a=>rfl
 | x::l,a=>(z65 sa (l:=l)).trans Array.size_setIfInBounds
theorem zdE{σ:Type}{x st:σ}{Q:PUnit->σ->Prop}(h:Q ⟨⟩ x):wpS M A E s (set x:StateT σ Sem PUnit) Q st:=by
 unfold wpS;rw[StateT.run_set];show wN (rfl,h)
def zeC{P:SortSt->Prop}{m:StateT SortSt Sem α}{Q:α->SortSt->Prop}(h:P st)(k:∀a,P a->wpS M A E s m Q a):wpS M A E s m Q st:=k _ h
theorem zds{l1 l2:List α}{x y v:α}(a:l1.length=i):((l1++x::y::l2).set i v).eraseIdx (i+1)=l1++v::l2:=by
 subst a;rw[List.set_append_right _ _ (wy _),Nat.sub_self,List.set_cons_zero,List.eraseIdx_append_of_length_le (by lia),show l1.length+1-l1.length=1 by lia]
 rfl
theorem zdT{a:Array α}{j:Nat}(h:i<j)(g:i<a.size):1<=(a.extract i j).size:=by
 rw[Array.size_extract];show Nat.sub_pos_of_lt (Nat.lt_min.mpr (h,g))
theorem zcT{Q:Bool->SortSt->Prop}(hl:Cmp M A E s κ it)(S:SQ it κ n lo st)(X:lo<=n)(hi:i+1<(pendingOf st).size)(k:∀ad,SQ it κ n lo ad->(pendingOf ad).size+1=(pendingOf st).size->Q true ad):wpS M A E s (mergeAt' i) Q st:=by
 obtain⟨l1,⟨sa,q,r⟩,⟨T,nb,p2⟩,l2,e,B⟩:=(zet (l:=(pendingOf st).toList) (by simpa using hi));have hc:=S.c;rw[e]at hc;obtain⟨c,O,⟨x1,N,D,H,y⟩⟩:=(Ch.app.mp hc);dsimp only at x1 N D H y;subst x1 D;have im:=y.le;show qJ (w2j ?_);have G:(pendingOf st)[i]? =AA (sa,q,r):=by rw[<-w0F,e,QA (by lia),B,Nat.sub_self];rfl
 have K:(pendingOf st)[i+1]? =AA (sa+q,nb,p2):=by rw[<-w0F,e,QA (by lia),B,show i+1-i=1 by lia];rfl
 dsimp only;rw[G,K];dsimp only;show qJ (zdE ?_);show zeC (P:=λt=>SQ it κ n lo t/\(pendingOf t).size+1=(pendingOf st).size) ?_ λt h=>?_
 .have C:(((pendingOf st).setIfInBounds i (sa,q+nb,r)).eraseIdxIfInBounds (i+1)).toList=l1++(sa,q+nb,r)::l2:=by
   rw[Array.toList_eraseIdxIfInBounds,Array.toList_setIfInBounds,e];show zds B
  show((S.k,S.f,S.z,S.a,?_),?_)
  .show Ch 0 (Array.toList _) lo
   rw[C];show Ch.app.mpr (sa,O,rfl,by dsimp only;lia,by dsimp only;rw[<-Nat.add_assoc];show y)
  .show Array.size (((pendingOf st).setIfInBounds i (sa,q+nb,r)).eraseIdxIfInBounds (i+1))+1=_
   rw[<-QJ,<-QJ,C,e,wg,wg];simp only[wP]
   lia
 obtain⟨h,w⟩:=h;have zs:Array.size ((sortPriv% PySem.Builtin.SortState.a) st)=n:=S.z;show kR S.a (by lia) λu F=>zdd hl h.k (.refl _) F S.a (by lia) (by lia) λj Y=>?_
 dsimp only;show z0u (λv=>qE (k _ h w)) λU=>kR S.a (by lia) λv L=>zdd hl h.k (.refl _) L S.a (by lia) (by lia) λZ J=>?_
 dsimp only;have fin:∀out d,Gm t d->All it out->SQ it κ n lo (SortSt.mk' (kindOf d) (List.foldl (λa x=>a.setIfInBounds (sa+j+x.snd) x.fst) (arrOf d) out.toList.zipIdx) (pendingOf d) (gallopOf d) (failedOf d)):=λout d g o=>by
  show(g.k.trans h.k,g.f.trans h.f,?_,?_,?_)
  .show Array.size (List.foldl _ _ _)=n
   rw[z65 (sa+j),g.a];show h.z
  .refine All.puts (b:=out) (sa+j) (by rw[g.a];show h.a) λp I=>o _ ?_
   show Array.mem_toList_iff.mp (List.fst_mem_of_mem_zipIdx I)
  .show Ch 0 (pendingOf d).toList lo
   rw[g.p];show h.c
 show z0u (λv=>qE (k _ h w)) λR=>yQ (λv=>qJ ?_) λv=>qJ ?_
 .refine zeJ hl h.k (S.a.ext _ _) (S.a.ext _ _) (zdT (by lia) (by lia)) (zdT (by lia) (by lia)) λout d g o=>qJ (w2d (qJ (w2j ?_)))
  have:=fin out d g o
  change wpS M A E s (pure (failedOf d).isNone) Q _
  rw[g.f,h.f];show qE (k _ this (by change(pendingOf d).size+1=_;rw[g.p];show w))
 .refine zeY hl h.k (S.a.ext _ _) (S.a.ext _ _) (zdT (by lia) (by lia)) (zdT (by lia) (by lia)) λout d g o=>qJ (w2d (qJ (w2j ?_)))
  have:=fin out d g o
  change wpS M A E s (pure (failedOf d).isNone) Q _
  rw[g.f,h.f];show qE (k _ this (by change(pendingOf d).size+1=_;rw[g.p];show w))
theorem SQ.sa(S:SQ it κ n lo st):SA it n st st:=(rfl,rfl,rfl,S.z,S.a)
theorem SQ.of{ad:SortSt}(S:SQ it κ n lo st)(h:SA it n st ad):SQ it κ n lo ad:=(h.k.trans S.k,h.f.trans S.f,h.z,h.a,by rw[h.p];show S.c)
theorem zdq{Q:Unit->SortSt->Prop}(hl:Cmp M A E s κ it)(S:SQ it κ n 0 st)(k:∀lo ad,SQ it κ n lo ad->Q () ad):wpS M A E s sortRuns' Q st:=by
 show qJ (w2j ?_)
 dsimp -zeta only
 extract_lets sz mr l0
 have hz:sz=n:=S.z
 clear_value mr sz
 subst hz;show qJ (w1c (Qy (Q:=λc ad=>c.1=AB/\c.2<=sz/\SQ it κ sz c.2 ad) (λi c ad=>c.1=AB/\c.2<=sz/\SQ it κ sz c.2 ad) ?_ (λv v z=>z) (rfl,qN _,S)) ?_)
 .rintro x ⟨_,lo⟩ J _ _ ⟨rfl,o,e⟩;dsimp only at o e
  dsimp -zeta only
  extract_lets l1 jp v3 v4
  have C:∀(m:Nat)(u:SortSt)(R:ForInStep (Option Unit×Nat)->SortSt->Prop),1<=m->SQ it κ sz lo u->(∀ad,SQ it κ sz (lo+m) ad->R (.yield (AB,lo+m)) ad)->wpS M A E s (jp () m) R u:=λm u R y H L=>by
   show qJ (w2j ?_)
   extract_lets w1 jp2
   have D:∀l,SQ it κ sz lo l->wpS M A E s (jp2 ()) R l:=λl t=>qJ (w2d (qE (L _ (t.k,t.f,t.z,t.a,by
    change Ch 0 ((pendingOf l).push (lo,m,0)).toList (lo+m)
    rw[Array.toList_push];show Ch.app.mpr (lo,t.c,rfl,y,rfl)))))
   clear_value jp2
   split
   .refine qJ (w1c (Qy (Q:=λc ad=>c.1=AB/\SQ it κ sz lo ad) (λi c ad=>c.1=AB/\SQ it κ sz lo ad) ?_ (λv v z=>z) (rfl,H)) ?_)
    .rintro x ⟨_,_⟩ j _ _ ⟨rfl,d⟩;show qJ (w2j ?_);dsimp only;split
     .rename_i h;have h2:1<(pendingOf j).size:=by
       by_cases z:(pendingOf j).size > 1
       .exact z
       .rw [wW z]at h;cases h
      show yQ (λv=>qE (rfl,d)) λv=>qJ (zcT hl d o (by change(pendingOf j).size-2+1<(pendingOf j).size;lia) λI B v=>?_)
      show qE (rfl,B)
     .exact qE (rfl,d)
    .rintro⟨_,_⟩ j ⟨rfl,d⟩;show qJ (w2d (D _ (d.k,d.f,d.z,d.a,?_)))
     change Ch 0 ((pendingOf j).modify _ _).toList lo
     rw[Array.toList_modify];show Ch.mod ?_ d.c;show λx=>(rfl,rfl)
   .exact D _ H
  clear_value jp
  show yQ (λv=>qE (rfl,o,e)) λc=>qJ (zby hl e.k e.sa (by change 1<=sz-lo;have:¬lo≥sz:=c;lia) (by change lo+(sz-lo)<=sz;lia) λm u y G F=>?_)
  have G:m<=sz-lo:=G;have c:¬lo≥sz:=c;show yQ (λh=>?_) λv=>C m u _ y (e.of F) λad w=>(rfl,by dsimp only;lia,w)
  have h:m<mr:=h;show qJ (wpS_lift (w1R (rfl,?_)));show qJ (zeq hl e.k F (by change lo+min (sz-lo) mr<=sz;lia) λl K=>?_);show C (min (sz-lo) mr) l _ (by lia) (e.of K) λad w=>(rfl,by dsimp only;lia,w)
 .rintro⟨_,lo⟩ J ⟨rfl,o,e⟩;dsimp only at o e;show qJ (w1c (Qy (Q:=λc ad=>SQ it κ sz lo ad) (λi c ad=>c.1=AB/\SQ it κ sz lo ad) ?_ (λv v z=>z.2) (rfl,e)) ?_)
  .rintro x ⟨_,_⟩ j _ _ ⟨rfl,d⟩;show qJ (w2j ?_);dsimp only;show yQ (λv=>qE d) λc=>qJ (zcT hl d o ?_ λI B v=>?_)
   .have c:¬(pendingOf j).size<=1:=c;have q:∀(b:Bool)(p:Nat),¬p<=1->(if b=true then p-2-1 else p-2)+1<p:=λb p h=>by split<;>lia
    show q _ _ c
   .exact qE (rfl,B)
  .rintro⟨r,_⟩ j d;cases r
   .exact qE (k _ _ d)
   .exact qE (k _ _ d)
end
end
section
open PySem PySem.Spec PyProof.Rows
theorem zej{vs ks:List AC}:∀{l:List Keyed},(∀x∈l,∃i,i<vs.length/\x=(ks.getD i Value.none,vs.getD i Value.none))->∃a:List Nat,l.map (·.2)=a.map (λi=>vs.getD i Value.none)/\a.length=l.length/\∀i∈a,i<vs.length
 | [],_=>([],rfl,rfl,λv h=>by cases h)
 | x::l,h=>by
  obtain⟨a,h1,h2,b⟩:=zej λy c=>h y (q5 _ c)
  obtain⟨i,hi,rfl⟩:=h x qI;show(i::a,by rw[qK,qK,h1],by rw[wP,wP,h2],λj hj=>?_);rcases wF.mp hj with rfl|hj
  .exact hi
  .exact b j hj
theorem z86{prog:AM}{w:Av}{A:Aj}{E:AC->AE->Prop}{s:AE}{κ:SortKind}{vs ks:List AC}(hl:ks.length=vs.length)
  (hc:∀(i j:Nat)(C:Bool->AE->Prop),i<vs.length->j<vs.length->(∀b,C b s)->AT (AV prog w) A (keyLt' κ (ks.getD i Value.none) (ks.getD j Value.none)) C (λv v=>False) s):
  AT (AV prog w) A ((sortRuns').run (SortSt.mk' κ (ks.toArray.zip vs.toArray) #[] 7 AB)) (λr s'=>s'=s/\failedOf r.2=AB/\∃c:List Nat,(arrOf r.2).map (·.2)=(c.map λi=>vs.getD i Value.none).toArray/\c.length=vs.length/\∀i∈c,i<vs.length) E s:=by
 have cm:Cmp (AV prog w) A E s κ (λx=>∃i,i<vs.length/\x=(ks.getD i Value.none,vs.getD i Value.none)):=by
  rintro _ _ st Q ⟨i,hi,rfl⟩ ⟨j,p,rfl⟩ q u;rw[lt'_eq];show qJ (w2j ?_);rw[q];show qJ (wpS_lift (wpAny_attempt (qQ (hc i j (λb s'=>s'=s) hi p λv=>rfl) (λb s' e=>?_) λv v z=>z.elim)));subst e;show(rfl,qE (u b))
 show qQ (zdq (n:=vs.length) cm (Q:=λv ad=>failedOf ad=AB/\∃c:List Nat,(arrOf ad).map (·.2)=(c.map λi=>vs.getD i Value.none).toArray/\c.length=vs.length/\∀i∈c,i<vs.length) (rfl,rfl,?_,λx d=>?_,rfl) λlo ad S=>?_) (λr s' h=>h) λv v e=>e
 .show(ks.toArray.zip vs.toArray).size=_
  simp[hl]
 .have d:x∈ks.toArray.zip vs.toArray:=d;obtain⟨i,hi,rfl⟩:=Array.mem_iff_getElem.mp d;have o:i<vs.length:=by simpa [hl]using hi
  show(i,o,?_);rw[Array.getElem_zip];simp[wx,o,hl]
 .obtain⟨c,h1,h2,t⟩:=zej (l:=(arrOf ad).toList) λx d=>S.a x (Array.mem_toList_iff.mp d)
  show(S.f,c,?_,?_,t)
  .rw [<-h1,<-Array.toList_map]
  .rw [h2,QJ];show S.z
end
end Lake

namespace Lake
open PySem PySem.Spec PyProof.Rows PySem.W
variable{vs:List AC}
theorem zgw{R:Nat->Nat->Prop}(h:vs.length<2):(List.range vs.length).Pairwise R:=by
 rcases(by lia:vs.length=0\/vs.length=1)with e|e<;>rw[e]
 .exact List.Pairwise.nil
 .exact List.pairwise_singleton _ _
theorem z5O{ks:List AC}(h:vs.length<2)(e:ks.length=vs.length):(ks.toArray.zip vs.toArray).map (·.2)=((List.range vs.length).map λi=>vs.getD i Value.none).toArray:=by
 rcases vs with _|⟨x,_|⟨y,vs⟩⟩<;>rcases ks with _|⟨k,_|⟨l,ks⟩⟩<;>first|(exfalso;simp only[wP,QS]at h e;lia)|simp
theorem z4A{prog:AM}{w:Av}{A:Aj}{E:AC->AE->Prop}{s:AE}{a:AD}{n:Nat}{P:PySem.Fin->AE->Prop}{κ:SortKind}(d:s.heap.get? a=AA (seqObj "list" vs.toArray n))(G:vs.length<=1000000)
  (z:2<=vs.length->∀(h':AN)(Q:SortKind->AE->Prop),(∀b o,b≠a->s.heap.get? b=AA o->h'.get? b=AA o)->Q κ {s with heap:=h'}->AT (AV prog w) A (keyKind' vs.toArray) Q E {s with heap:=h'})
  (F:∀(h':AN),(∀b o,b≠a->s.heap.get? b=AA o->h'.get? b=AA o)->∀i j (C:Bool->AE->Prop),i<vs.length->j<vs.length->(∀b,C b {s with heap:=h'})->
   AT (AV prog w) A (keyLt' κ (vs.getD i Value.none) (vs.getD j Value.none)) C (λv v=>False) {s with heap:=h'})
  (h:∀c:List Nat,c.length=vs.length->(∀i∈c,i<vs.length)->P (.done (.ret .none)) {s with heap:=sortedHeap s.heap a vs (c.map λi=>vs.getD i Value.none).toArray}):
  AT (AV prog w) A (Builtin.«list.sort» ([.ref a],[])) P E s:=by
 rw[list_sort_plain];have ha:a<s.heap.objs.size:=wI d;show wu (listItems_at d rfl ?_);show wu (w1y d rfl ?_);obtain⟨p,q⟩:∃p,(s.heap.update a (Obj.mapSeq λv=> #[])).get? a=AA (seqObj "list" #[] p):=(_,get?_update_seq d (λv=> #[]))
 show wu (seqEpoch_at q rfl ?_);show wu (wpAny_newTuple ?_);show wu (wpAny_newList ?_);show Qo ?_;have f:(((s.heap.update a (Obj.mapSeq λv=> #[])).push (seqObj "tuple" vs.toArray 0)).push (seqObj "list" #[] 0)).get? a=AA (seqObj "list" #[] p):=by
  rw[Heap.get?_push_ne _ _ _ (by rw[size_push',Heap.size_update];show wS (Qc ha)),Heap.get?_push_ne _ _ _ (by rw[Heap.size_update];show wS ha)];show q
 have kp:∀b o,b≠a->s.heap.get? b=AA o->(((s.heap.update a (Obj.mapSeq λv=> #[])).push (seqObj "tuple" vs.toArray 0)).push (seqObj "list" #[] 0)).get? b=AA o:=λb o t e=>by
  show wo _ (wo _ ?_);rw[w1I _ _ _ _ t];show e
 change AT (AV prog w) A _ P E {s with heap:=((s.heap.update a (Obj.mapSeq λv=> #[])).push (seqObj "tuple" vs.toArray 0)).push (seqObj "list" #[] 0)}
 dsimp only;have hsz:vs.toArray.size=vs.length:=by simp
 by_cases h2:vs.toArray.size<2
 .rw [qc h2,qc h2];show wu (wN ?_);rw[StateT.run_pure];show wu (wN ?_);dsimp only;show wu (seqEpoch_at f rfl ?_);show wu (w1y f rfl ?_ (hsz2:=by rw[Array.size_map];change(pairsOf vs).size<=_;rw[pairsOf_size,Qp];lia));simp only[bne_self_eq_false,w08,w0A];have x:vs.length<2:=by lia
  have l:(arrOf (SortSt.mk' general' (vs.toArray.zip vs.toArray) #[] 7 AB)).map (·.2)=((List.range vs.length).map λi=>vs.getD i Value.none).toArray:=by
   have D:arrOf (SortSt.mk' general' (vs.toArray.zip vs.toArray) #[] 7 AB)=vs.toArray.zip vs.toArray:=rfl;rw[D];show z5O x rfl
  show wN ?_;have:=h (List.range vs.length) List.length_range (λi hi=>w0g.mp hi);rw[<-l]at this;show this
 .rw [wW h2,wW h2];show wu (z (by lia) _ _ kp ?_);show wu (qQ (z86 rfl λi j C hi B u=>F _ kp i j C hi B u) ?_ λv v e=>e);rintro⟨⟨⟩,ad⟩ s' ⟨rfl,y,c,l,pm,r⟩;dsimp only;show wu (seqEpoch_at f rfl ?_);show wu (w1y f rfl ?_ (hsz2:=by rw[l,wB,wa,pm,Qp];lia));rw[y];simp only[bne_self_eq_false,w08,w0A];have:=h c pm r;rw[<-l]at this;show wN this
section
variable{X:Cx}
theorem z5p(hc:X.calm=true):kr X (.builtin "sorted") (λxs H Q=>∃(l:AD)(ps:List PQ),xs= [.ref l]/\SqL X.K H l (ps.map λp=>V.ref p.1)/\(∀p∈ps,H p.1=AA (.tup [.int p.2.1,.int p.2.2]))/\ps.length<=1000000/\
  ∀(r:AD)(c:List Nat),H r=AB->c.length=ps.length->(∀i∈c,i<ps.length)->Q (.ref r) (upd H r (.lst (c.map λi=>V.ref (ps.getD i pq0).1)))):=by
 intro A2 s σ H xs us Q I r h;obtain⟨l,ps,rfl,hq,J,nj,q⟩:=(h);obtain⟨u,rfl,S⟩:=(vals1 r);cases S;obtain⟨vs,y,pl,hz⟩:=(I.list hq);have hlen:vs.length=ps.length:=by
  have:=y.length;rw[wa]at this
  lia
 show Calls.call_function_entry kind_sorted plain_sorted entry_sorted (args_sorted1 _) ?_;unfold Builtin.«sorted»;show wu (m:=checkCount "sorted" 1 1 _) (wN ?_);show wu (collect_list pl.isList ?_ (by rw[Qp];lia));show wu (wpAny_newList ?_ (by rw[Qp];lia));obtain⟨h1,G⟩:∃h1,(s.heap.push (seqObj "list" #[] 0)).update s.heap.objs.size (Obj.mapSeq (·++vs.toArray))=h1:=(_,rfl)
 have kp1:∀b o,s.heap.get? b=AA o->h1.get? b=AA o:=λb o e=>by
  have x:=wI e;rw[<-G,w1I _ _ _ _ (wS x)];show wo _ e
 rw[G];have E:Inv X A2 σ H {s with heap:=h1}:=I.kept (t':=s.toks) kp1;have B:(h1.push (seqObj "list" vs.toArray 0)).get? h1.objs.size=AA (seqObj "list" vs.toArray 0):=wX _ rfl;have kp2:∀b o,s.heap.get? b=AA o->b≠h1.objs.size/\(h1.push (seqObj "list" vs.toArray 0)).get? b=AA o:=λb o e=>(wS (wI (kp1 b o e)),wo _ (kp1 b o e))
 show wu (Qo (wpAny_call_entry slot_list_sort (_,B,rfl) entry_list_sort (z4A (κ:=tuples' true) B (by lia) (λh2 h' Q' kp Z=> ?kk) (λh' kp i j C hi f N=> ?cm) λc pm A=>(_,rfl,?fin)) (args_list_sort _)))
 case kk=>
  obtain⟨fs,k,lf,hi⟩:=(z9z I (h':=h') (λb o xs n e W W=>kp b o (kp2 b o e).1 (kp2 b o e).2) ps vs J y);show kat_kind (T:= .type "int") k (by lia) (λv P=>?_) (by decide) Z;obtain⟨a,t,rfl⟩:=(hi v P);show .now
 case cm=>
  have get:∀m,m<ps.length->∃(t u:Tok),vs.getD m Value.none= .ref (ps.getD m pq0).1/\IsTup h' (ps.getD m pq0).1 #[.int (ps.getD m pq0).2.1 t,.int (ps.getD m pq0).2.2 u]:=λm hm=>by
   have g:(ps.map λp=>V.ref p.1)[m]? =AA (V.ref ps[m].1):=by rw[wK,wb hm];rfl
   have L:ps.getD m pq0=ps[m]:=by rw[wx,wb hm];rfl
   obtain⟨w,D,z⟩:=(y.get g);cases z;obtain⟨aa,r',pl,_⟩:=(I.tuple (SqT.of (J _ (wz hm))));obtain⟨u,w',rfl,⟨t,rfl⟩,⟨t',rfl⟩⟩:=(vals2 r');obtain⟨o,F,U,n,hd⟩:=(pl);show(t,t',?_,?_)
   .rw [wx,D,L];rfl
   .rw [L];show(o,kp _ _ (kp2 _ _ F).1 (kp2 _ _ F).2,U,n,hd)
  obtain⟨t,u,O,M⟩:=(get i (by lia));obtain⟨t',u',Y,t2⟩:=(get j (by lia));rw[O,Y];show zdz M t2 (N _)
 case fin=>
  show wN (_,rfl,?_);obtain⟨e,he⟩:=sortedHeap_at (out:=(c.map λi=>vs.getD i Value.none).toArray) B;rw[hlen]at pm A;show(.ref h1.objs.size,upd H h1.objs.size (.lst (c.map λi=>V.ref (ps.getD i pq0).1)),?_,rfl,q _ c E.fresh pm A);show E.laid (a:=h1.objs.size) (t':=s.toks) (λb o e=>?_) (wy _) (?_,c.map λi=>vs.getD i Value.none,e,?_,?_)
  .have x:=wI e;rw[sortedHeap_old (wS x) (by rw[Qi];show Qc x)];show wo _ e
  .rw [wa,pm];show zR (by lia)
  .have go:∀d:List Nat,(∀j∈d,j<ps.length)->zS (d.map λi=>V.ref (ps.getD i pq0).1) (d.map λi=>vs.getD i Value.none):=λd=>by
    induction d with
    | nil=>intro _;show .nil
    | cons j d R=>
     intro f;rw[qK,qK];show .cons ?_ (R λm hm=>f m (q5 _ hm));have hm:=f j qI;have g:(ps.map λp=>V.ref p.1)[j]? =AA (V.ref ps[j].1):=by rw[wK,wb hm];rfl
     obtain⟨w,D,z⟩:=(y.get g);rw[wx,wb hm,wx,D];show z
   show go c λj f=>A j f
  .exact he
end
end Lake

namespace Qs
open PySem Lake Cn Rw
inductive Qn where
 | table (n:Str)|pick (c:Cond) (q:Qn)|cols (ns:List Str) (q:Qn)|pair (q r:Qn)|join (a b:Str) (q r:Qn)
 | both (q r:Qn)|first (n:Int) (q:Qn)|group (a b n s:Str) (q:Qn)|sort (a:Str) (q:Qn)
def QAt(H:Hp):Qn->V->Prop
 | .table n,v=>∃p,v= .ref p/\H p=AA (.tup [.str "table",.str n])
 | .pick c q,v=>∃p x y,v= .ref p/\H p=AA (.tup [.str "pick",x,y])/\zI H c x/\QAt H q y
 | .cols ns q,v=>∃p x y,v= .ref p/\H p=AA (.tup [.str "cols",.ref x,y])/\H x=AA (.tup (ns.map V.str))/\QAt H q y
 | .pair q r,v=>∃p x y,v= .ref p/\H p=AA (.tup [.str "pair",x,y])/\QAt H q x/\QAt H r y
 | .join a b q r,v=>∃p x y,v= .ref p/\H p=AA (.tup [.str "join",.str a,.str b,x,y])/\QAt H q x/\QAt H r y
 | .both q r,v=>∃p x y,v= .ref p/\H p=AA (.tup [.str "both",x,y])/\QAt H q x/\QAt H r y
 | .first n q,v=>∃p y,v= .ref p/\H p=AA (.tup [.str "first",.int n,y])/\QAt H q y
 | .group a b n s q,v=>∃p y,v= .ref p/\H p=AA (.tup [.str "group",.str a,.str b,.str n,.str s,y])/\QAt H q y
 | .sort a q,v=>∃p y,v= .ref p/\H p=AA (.tup [.str "sort",.str a,y])/\QAt H q y
theorem QAt.mono{H H':Hp}(t:∀b xs,H b=AA (.tup xs)->H' b=AA (.tup xs)):∀{q:Qn} {v:V},QAt H q v->QAt H' q v
 | .table _,_,h=>by
  obtain⟨p,rfl,h⟩:=h;show(p,rfl,t _ _ h)
 | .pick _ _,_,h=>by
  obtain⟨p,x,y,rfl,h,h1,h2⟩:=h;show(p,x,y,rfl,t _ _ h,h1.mono t,h2.mono t)
 | .cols _ _,_,h=>by
  obtain⟨p,x,y,rfl,h,h1,h2⟩:=h;show(p,x,y,rfl,t _ _ h,t _ _ h1,h2.mono t)
 | .pair _ _,_,h=>by
  obtain⟨p,x,y,rfl,h,h1,h2⟩:=h;show(p,x,y,rfl,t _ _ h,h1.mono t,h2.mono t)
 | .join _ _ _ _,_,h=>by
  obtain⟨p,x,y,rfl,h,h1,h2⟩:=h;show(p,x,y,rfl,t _ _ h,h1.mono t,h2.mono t)
 | .both _ _,_,h=>by
  obtain⟨p,x,y,rfl,h,h1,h2⟩:=h;show(p,x,y,rfl,t _ _ h,h1.mono t,h2.mono t)
 | .first _ _,_,h=>by
  obtain⟨p,y,rfl,h,h2⟩:=h;show(p,y,rfl,t _ _ h,h2.mono t)
 | .group _ _ _ _ _,_,h=>by
  obtain⟨p,y,rfl,h,h2⟩:=h;show(p,y,rfl,t _ _ h,h2.mono t)
 | .sort _ _,_,h=>by
  obtain⟨p,y,rfl,h,h2⟩:=h;show(p,y,rfl,t _ _ h,h2.mono t)
theorem QAt.same{H H':Hp}{q:Qn}{v:V}(e:zw H H')(h:QAt H q v):QAt H' q v:=h.mono λb xs z=>e b _ z
noncomputable def Side.txt:Side->Str
 | .nm s=>s
 | .nu i=>toString i
noncomputable def ends(a b:Side):Str:=Side.txt a ++ " " ++ Side.txt b
noncomputable def yt:Cond->Str
 | .less a b=>"(" ++ "less" ++ " " ++ ends a b ++ ")"
 | .same a b=>"(" ++ "same" ++ " " ++ ends a b ++ ")"
 | .no c=>"(" ++ "not" ++ " " ++ yt c ++ ")"
 | .an c d=>"(" ++ "and" ++ " " ++ (yt c ++ " " ++ yt d) ++ ")"
 | .or c d=>"(" ++ "or" ++ " " ++ (yt c ++ " " ++ yt d) ++ ")"
noncomputable def zB:Qn->Str
 | .table n=>n
 | .pick c q=>"(pick " ++ yt c ++ " " ++ zB q ++ ")"
 | .cols ns q=>"(cols " ++ Str.join " " ns ++ " " ++ zB q ++ ")"
 | .pair q r=>"(pair " ++ zB q ++ " " ++ zB r ++ ")"
 | .join a b q r=>"(join " ++ a ++ " " ++ b ++ " " ++ zB q ++ " " ++ zB r ++ ")"
 | .both q r=>"(both " ++ zB q ++ " " ++ zB r ++ ")"
 | .first n q=>"(first " ++ (toString n:Str) ++ " " ++ zB q ++ ")"
 | .group a b n s q=>"(group " ++ (a ++ " " ++ b ++ " " ++ n ++ " " ++ s) ++ " " ++ zB q ++ ")"
 | .sort a q=>"(sort " ++ a ++ " " ++ zB q ++ ")"
section
variable(th:Str->List Str)
noncomputable def ze:Qn->List Str
 | .table n=>th n
 | .pick _ q=>ze q
 | .cols ns _=>ns
 | .pair q r=>ze q++ze r
 | .join _ _ q r=>ze q++ze r
 | .both q _=>ze q
 | .first _ q=>ze q
 | .group a _ n s _=> [a,n,s]
 | .sort _ q=>ze q
end
noncomputable def bd:Qn->Nat
 | .table _=>60
 | .pick _ q=>bd q
 | .cols _ q=>bd q
 | .pair q r=>bd q*bd r
 | .join _ _ q r=>bd q*bd r
 | .both q r=>bd q+bd r
 | .first _ q=>bd q
 | .group _ _ _ _ q=>bd q
 | .sort _ q=>bd q
noncomputable def jf:List Str:= ["a","b","f","g","h","i","j","k","l","o","p","q"]
noncomputable def z2J:List Str:= ["abcabcabcd","abcabcabce"]
noncomputable def signs:List Str:= ["a","b","c","d","e","f","g","h","i","j","k","l","m","n","o","p","q","r","s","t","u","v","w","x","y","z"]
noncomputable def z0e(k used:Nat):List Str:=jf++(if 2<=used then z2J else [])++(if 3<=used then(["e"]:List Str)else [])++((signs.take k).map λs=>(("n":Str)++s:Str))++((signs.take k).map λs=>(("s":Str)++s:Str))
noncomputable def tabs:List Str:= ["t","tuvtuvtuvw","tuvtuvtuvx","tuvz"]
noncomputable def nums:List Int:= [0,1,-1,2,10 ^ 30,3]
noncomputable def z0v:List Int:= [9,1,5,3,12,7,0,10 ^ 9,4,2,8]
def Side.small(hs:List Str):Side->Prop
 | .nm s=>s∈hs
 | .nu i=>i∈nums
def jz(hs:List Str):Cond->Prop
 | .less a b=>Side.small hs a/\Side.small hs b
 | .same a b=>Side.small hs a/\Side.small hs b
 | .no c=>jz hs c
 | .an c d=>jz hs c/\jz hs d
 | .or c d=>jz hs c/\jz hs d
theorem jz.ok{hs:List Str}:∀{c:Cond},jz hs c->c.ok hs
 | .less a b,h=>by
  show(?_,?_)
  .cases a with
   | nm s=>show h.1
   | nu i=>trivial
  .cases b with
   | nm s=>show h.2
   | nu i=>trivial
 | .same a b,h=>by
  show(?_,?_)
  .cases a with
   | nm s=>show h.1
   | nu i=>trivial
  .cases b with
   | nm s=>show h.2
   | nu i=>trivial
 | .no c,h=>jz.ok (c:=c) h
 | .an c d,h=>(jz.ok h.1,jz.ok h.2)
 | .or c d,h=>(jz.ok h.1,jz.ok h.2)
def okQ(th:Str->List Str):Qn->Prop
 | .table n=>n∈tabs
 | .pick c q=>jz (ze th q) c/\c.size<=6/\okQ th q
 | .cols ns q=>ns≠ []/\ns.Nodup/\(∀n∈ns,n∈ze th q)/\okQ th q
 | .pair q r=>(∀n∈ze th q,n∉ze th r)/\okQ th q/\okQ th r
 | .join a b q r=>a∈ze th q/\b∈ze th r/\(∀n∈ze th q,n∉ze th r)/\okQ th q/\okQ th r
 | .both q r=>ze th q=ze th r/\okQ th q/\okQ th r
 | .first n q=>n∈z0v/\okQ th q
 | .group a b n s q=>a∈ze th q/\b∈ze th q/\(∃g∈signs,n=("n":Str)++g/\s=("s":Str)++g)/\a≠n/\a≠s/\okQ th q
 | .sort a q=>a∈ze th q/\okQ th q
noncomputable def depth:Qn->Nat
 | .table _=>1
 | .pick _ q=>depth q+1
 | .cols _ q=>depth q+1
 | .pair q r=>max (depth q) (depth r)+1
 | .join _ _ q r=>max (depth q) (depth r)+1
 | .both q r=>max (depth q) (depth r)+1
 | .first _ q=>depth q+1
 | .group _ _ _ _ q=>depth q+1
 | .sort _ q=>depth q+1
structure TabOk(th:Str->List Str)(tr:Str->List (List Int)):Prop where
 t:∃m,2<=m/\m<=12/\th "t"=jf.take m
 w:th "tuvtuvtuvw"=z2J
 x:th "tuvtuvtuvx"=(["e"]:List Str)
 z:th "tuvz"=th "t"
 rl:∀n∈tabs,∀r∈tr n,r.length=(th n).length
 ct:(tr "t").length<=60
 cw:(tr "tuvtuvtuvw").length<=10
 cx:(tr "tuvtuvtuvx").length<=10
 cz:(tr "tuvz").length=3
 zz:(th "zz").length<=100
theorem z8m:jf.Nodup:=by decide
theorem zfE:∀g∈signs,(("n":Str)++g:Str)≠(("s":Str)++g:Str):=by decide
section
variable{th:Str->List Str}{tr:Str->List (List Int)}
theorem TabOk.hd(T:TabOk th tr):∀n∈tabs,th n≠ []/\(th n).Nodup:=by
 obtain⟨m,a,b,e⟩:=T.t;have ht:th "t"≠ []/\(th "t").Nodup:=by
  rw[e];show(λz=>?_,z8m.sublist (List.take_sublist _ _));have:=QG List.length z;rw[qi]at this;simp[jf]at this
  lia
 intro n hn;simp only[tabs,wF,qh,QE]at hn;rcases hn with rfl|rfl|rfl|rfl
 .exact ht
 .rw [T.w];show(by decide,by decide)
 .rw [T.x];show(by decide,by decide)
 .rw [T.z];show ht
theorem jx(T:TabOk th tr):∀{q:Qn},okQ th q->ze th q≠ []/\(ze th q).Nodup
 | .table n,h=>T.hd n h
 | .pick _ q,h=>jx T (q:=q) h.2.2
 | .cols ns q,h=>(h.1,h.2.1)
 | .pair q r,h=>by
  have h1:=jx T (q:=q) h.2.1;have h2:=jx T (q:=r) h.2.2;show(by change _++_≠_;simp[h1.1],QN.mpr (h1.2,h2.2,λa ha b c e=>h.1 a ha (e ▸ c)))
 | .join a b q r,h=>by
  have h1:=jx T (q:=q) h.2.2.2.1;have h2:=jx T (q:=r) h.2.2.2.2;show(by change _++_≠_;simp[h1.1],QN.mpr (h1.2,h2.2,λa ha b c e=>h.2.2.1 a ha (e ▸ c)))
 | .both q r,h=>jx T (q:=q) h.2.1
 | .first _ q,h=>jx T (q:=q) h.2
 | .group a b n s q,h=>by
  obtain⟨_,_,⟨g,d,rfl,rfl⟩,h1,h2,_⟩:=h;show(by change [_,_,_]≠ [];simp,?_)
  change List.Nodup [a,_,_]
  simp[h1,h2,zfE g d]
 | .sort _ q,h=>jx T (q:=q) h.2
end
end Qs
namespace Qs
open PySem Lake Cn Rw
theorem z84:∀s∈jf,s.length<=10:=by decide
theorem zfZ:∀s∈z2J,s.length<=10:=by decide
theorem zg9:∀s∈(["e"]:List Str),s.length<=10:=by decide
theorem z2W:∀g∈signs,(("n":Str)++g:Str).length<=10/\(("s":Str)++g:Str).length<=10/\g.length=1:=by decide
variable{th:Str->List Str}
section
variable{tr:Str->List (List Int)}
theorem z5J(T:TabOk th tr):∀n∈tabs,∀s∈th n,s.length<=10:=by
 obtain⟨m,a,b,e⟩:=T.t;have ht:∀s∈th "t",s.length<=10:=by
  rw[e];show λs hs=>z84 s (QB hs)
 intro n hn;simp only[tabs,wF,qh,QE]at hn;rcases hn with rfl|rfl|rfl|rfl
 .exact ht
 .rw [T.w];show zfZ
 .rw [T.x];show zg9
 .rw [T.z];show ht
theorem ja(T:TabOk th tr):∀{q:Qn},okQ th q->∀s∈ze th q,s.length<=10
 | .table n,h=>z5J T n h
 | .pick _ q,h=>ja T (q:=q) h.2.2
 | .cols ns q,h=>λs hs=>ja T (q:=q) h.2.2.2 s (h.2.2.1 s hs)
 | .pair q r,h=>λs hs=>by
  rcases wA.mp hs with hs|hs
  .exact ja T (q:=q) h.2.1 s hs
  .exact ja T (q:=r) h.2.2 s hs
 | .join a b q r,h=>λs hs=>by
  rcases wA.mp hs with hs|hs
  .exact ja T (q:=q) h.2.2.2.1 s hs
  .exact ja T (q:=r) h.2.2.2.2 s hs
 | .both q r,h=>ja T (q:=q) h.2.1
 | .first _ q,h=>ja T (q:=q) h.2
 | .group a b n s q,h=>λx e=>by
  obtain⟨ha,_,⟨g,d,rfl,rfl⟩,_,_,f⟩:=h;have c:x∈ [a,("n":Str)++g,("s":Str)++g]:=e;simp only[wF,qh,QE]at c;rcases c with rfl|rfl|rfl
  .exact ja T (q:=q) f _ ha
  .exact(z2W g d).1
  .exact(z2W g d).2.1
 | .sort _ q,h=>ja T (q:=q) h.2
end
structure Wid(w:Nat)(rs:List (AD×List Int)):Prop where
 e:∀r∈rs,r.2.length=w
inductive StAt(th:Str->List Str)(H:Hp)(v:V)(q:Qn)(N:Nat):Prop
 | mk:∀(p:AD)(qv:V)(hp rp:AD)(rs:List (AD×List Int)),v= .ref p->H p=AA (.tup [qv,.str (zB q),.ref hp,.ref rp])->QAt H q qv->H hp=AA (.lst ((ze th q).map V.str))->RowsAt H rp rs->Wid (ze th q).length rs->rs.length=N->StAt th H v q N
theorem StAt.same{H H':Hp}{v:V}{q:Qn}{N:Nat}(h:StAt th H v q N)(e:zw H H'):StAt th H' v q N:=by
 obtain⟨p,qv,c,rp,rs,rfl,h1,h2,f,b,a,d⟩:=h;show(p,qv,c,rp,rs,rfl,e _ _ h1,h2.same e,e _ _ f,b.same e,a,d)
end Qs

namespace Lake
open PySem PySem.Spec PyProof.Rows
section
variable{P:AM}{w:Av}{x:Str}{f:AD}{fd:A1}{sp:Sp}
section
variable{K:W.Frag}{mg:Str->Option AC}{base:AN}
theorem Fun.okC{qual:Str}{st:Stmt}{N ps:List Str}{k:Nat}(F:Fun K x qual st f fd)(S:FnScope N ps (zj st))(len:∀vs H Q E,sp vs H Q E->vs.length=ps.length)
  (e:∀(A:Aj)(A3:List Env)(s:AE)(H:Hp)(vs:List V)(Q:VK)(E:XK),Room k (A.deeper (envOfC qual (zj st) s.heap.objs.size f fd.code))->sp vs H Q E->
   ∃t,PSs (z1e CX0 P w K mg base N qual (zj st) f fd.code A A3 s H E).nox (jN st) t/\t {nx:=λv H'=>Q .non H',rt:=Q} (start N vs) H):FnOk P w K mg base CX0 (k+1) f fd ps sp:=by
 obtain⟨oc,od,kV,aY,pm,an,ag,ct,bW,rfl,d,b⟩:=(F.ex);show z93 d b S len λA A3 s H vs Q E a c=>?_
 obtain⟨t,h,q⟩:=(e A A3 s H vs Q E a c);show(t,h.nox,q)
end
variable{X:Cx}{A2:List (AD×Obj)}{H:Hp}{s:AE}
section
variable{σ:St}
theorem Inv.adopt{D:AD}{o:HO}(I:Inv X A2 σ H s)(hn:H D=AB)(d:D≠X.env.locals)(h1:X.s₀.heap.objs.size<=D)(h2:∀x c,X.env.cells.lookup x=AA c->c≠D)(f:∀p∈X.pn++A2,p.1≠D)
  (new:jh X.prog X.w (upd H D o) s.heap D o):Inv X A2 σ (upd H D o) s:=by
 have r:=I.step (h':=s.heap) (H':=upd H D o) (g':=s.gens) (t':=s.toks) (d':=s.drawn) (ch:= [D]) (λb a=>?_) (λb o t t t e t=>e) (λb o t t t e t=>(o.slots,e))
  (λb o hc e n=>by rw[zn (by simpa using hc)];show n) (λb o t e=>(o,e)) (λb xs e=>by rw[zn (zr e hn)];show e) (λb o u e=>by rw[zn (zr e hn)];show e)
  (λb ps e=>(#[],by rw[zn (zr e hn),e];simp)) (λm hm=>hm) (λb u e=>?_) I.bare
 .exact r
 .have e:b=D:=by simpa using a
  subst e;show(.inr h1,d,h2,f)
 .by_cases a:b=D
  .subst a;rw[zm]at e;cases e;show new
  .rw [zn a]at e;show(I.hok b u e).stay (λc v t q=>q) (λc q=>by rw[zn (zr q hn)];show q) λc xs q=>by rw[zn (zr q hn)];show q
end
def z4u(H:Hp)(T:AD)(lp:Pos)(q:Str)(c:AD):Prop:=
 H T=AA (.tbl #[rawInt lp.line,rawInt lp.col,.ref c])/\∃oc vs t,H c=AA (.frz oc (.own 0))/\oc.data= .fields vs/\vs[1]? =AA (.str q t)
def jR(H:Hp)(T:AD)(lp:Pos)(q:Str):Prop:=H T=AA (.tbl #[])\/∃c,z4u H T lp q c
variable{T:AD}{lp:Pos}{q:Str}
theorem jR.ne{a:AD}{u:HO}(h:jR H T lp q)(e:H a=AA u)(b:∀ps,u≠ .tbl ps):a≠T:=by
 rintro rfl;rcases h with h|⟨c,h,_⟩
 .rw [h]at e;cases e;show b _ rfl
 .rw [h]at e;cases e;show b _ rfl
theorem jR.same{H':Hp}(h:jR H T lp q)(k:zw H H'):jR H' T lp q:=by
 rcases h with h|⟨c,h,oc,vs,t,h2,a⟩
 .exact .inl (k _ _ h)
 .exact .inr (c,k _ _ h,oc,vs,t,k _ _ h2,a)
variable{h:AN}{c:AD}
theorem z4u.rec(x:z4u H T lp q c)(ok:HOk P w H h):h.CodeRec (.ref c) q:=by
 obtain⟨_,oc,vs,t,h2,b,a⟩:=x;obtain⟨e,_⟩:=ok c _ h2;show(c,oc,vs,t,rfl,e,b,a)
variable{A:Aj}{E:AC->AE->Prop}{params:Arguments}{body:Expr}{scope:Scope}
section
variable{σ:St}
noncomputable abbrev z3y(X:Cx)(params:Arguments)(body:Expr)(scope:Scope)(pm:AC)(c:AD)(ct:AC):Obj:=
 PySem.W.kla_obj "<lambda>" (X.env.qual ++ "<lambda>") params body scope (yV X.env scope.names []) pm c ct
theorem z7O{Q:AC->AE->Prop}(I:Inv X A2 σ H s)(hc:X.env.code= .ref c)(C:PySem.W.CodeHd X.base c T)(B:X.base.BuiltinsAt X.mg T)
  (U:jR H T lp (X.env.qual ++ "<lambda>"))(Y:defaultsOf params X.env=([],[]))(clo:∀y∈scope.names,y.2= .free->X.env.kindOf y.1=AA .cell\/X.env.kindOf y.1=AA .free)
  (h:∀f a ct pm H' s',Kp T H H'->z4u H' T lp (X.env.qual ++ "<lambda>") a->Inv X (A2++[(f,z3y X params body scope pm a ct)]) σ H' s'->Q (.ref f) s'):
  AT (AV X.prog X.w) A (eval (.Lambda params body scope lp) X.env) Q E s:=by
 have M:∀y∈scope.names,y.2= .free->∃c,X.env.cells.lookup y.1=AA c:=λy hy J=>I.ok.has y.1 (clo y hy J)
 have R:s.heap.Ns AK X.mg:=by
  obtain⟨o,es,ep,e,r⟩:=(I.mod.glob);show(o,es,ep,I.bk _ _ e,r)
 have N:s.heap.BuiltinsAt X.mg T:=by
  obtain⟨bm,o,b1,b2,b3,b4,b5,b6⟩:=(B);show(bm,o,b1,b2,b3,b4,I.bk _ _ b5,b6)
 show PySem.W.kla_eval Y ?_;rcases U with i|⟨a,i,oc,vs,t,h2,h3,h4⟩
 .have F:s.heap.get? T=AA (PySem.W.tabObj #[]):=I.hok T _ i;have xi:AK≠T:=λz=>by
   obtain⟨o,es,ep,e,r⟩:=(I.mod.glob);have:=(I.bs _ _ e).2;rw[z,i]at this;cases this
  show PySem.W.kla_makeFunction (ps:= #[]) (z07 M) I.ok.glob R hc (C.keeps I.bk) F trivial rfl xi N λa ct h' tk hx l O gD G=>?_
  obtain⟨c2,oc,vs,t,e2,P,hd,Z⟩:=(gD);cases e2;have nc:H a=none:=I.hok.fresh l;have L:a≠T:=λz=>by rw[z,i]at nc;cases nc
  have K:h'.get? T=AA (PySem.W.tabObj #[rawInt lp.line,rawInt lp.col,.ref a]):=by simpa using G
  have ne:∀b u,H b=AA u->b≠a:=λb u e=>zr e nc
  have up:∀b o,b≠T->s.heap.get? b=AA o->(h'.push (z3y X params body scope ((X.mg "__name__").getD .none) a ct)).get? b=AA o:=λb o n e=>wo _ (hx b o n e)
  have j:∀b,b≠T->b≠a->upd (upd H a (.frz oc (.own 0))) T (.tbl #[rawInt lp.line,rawInt lp.col,.ref a]) b=H b:=λb S n2=>by rw[zn S,zn n2]
  have D:∀b u,H b=AA u->(∀ps,u≠ .tbl ps)->b≠T:=λb u e hu z=>by rw[z,i]at e;cases e;show hu _ rfl
  have x:Inv X A2 σ (upd (upd H a (.frz oc (.own 0))) T (.tbl #[rawInt lp.line,rawInt lp.col,.ref a])) {s with heap:=h'.push (z3y X params body scope ((X.mg "__name__").getD .none) a ct),toks:=tk}:=by
   show I.un (λb o e n m m=>up b o (λz=>by rw[z,i]at n;cases n) e,λb o e n m m=>(o.slots,up b o (λz=>by rw[z,i]at n;cases n) e),λb o e n m=>?_,λb o e m=>?_,λb xs e=>?_,λb o u e=>?_,λb ps e=>?_) λb u e=>?_
   .rw [j b (λz=>by rw[z,i]at n;cases n) (wS (wM (wI e) l))];show n
   .by_cases hb:b=T
    .exact(_,wo _ (hb ▸ K))
    .exact(o,up b o hb e)
   .rw [j b (D b _ e λps z=>by cases z) (ne b _ e)];show e
   .rw [j b (D b _ e λps z=>by cases z) (ne b _ e)];show e
   .by_cases hb:b=T
    .rw [hb,i]at e;cases e;rw[hb];show(#[rawInt lp.line,rawInt lp.col,.ref a],by rw[zm];simp)
    .exact(#[],by rw[j b hb (ne b _ e),e];simp)
   .by_cases hb:b=T
    .rw [hb]at e ⊢;rw[zm]at e;cases e;show wo _ K
    .by_cases ft:b=a
     .rw [ft]at e ⊢;rw[zn L,zm]at e;cases e;show(wo _ P,oc,wo _ P)
     .rw [j b hb ft]at e;show(I.hok b u e).stay (λd v hd q=>up d v ?_ q) (λd q=>?_) λd xs q=>?_
      .rcases hd with hd|hd
       .rw [hd];show hb
       .exact D d _ hd λps z=>by cases z
      .rw [j d (D d _ q λps z=>by cases z) (ne d _ q)];show q
      .rw [j d (D d _ q λps z=>by cases z) (ne d _ q)];show q
  have hsz:s.heap.objs.size<=h'.objs.size:=w1M (Nat.lt_of_le_of_lt l O);have l7:T<s.heap.objs.size:=wI F;show h h'.objs.size a ct ((X.mg "__name__").getD .none) _ _ (λb o n e=>by rw[j b n (ne b _ e)];show e) (zm,oc,vs,t,by rw[zn L,zm],hd,Z) (x.pins_of λp hp=>?_);rcases wA.mp hp with hp|hp
  .exact x.pin p (wE _ hp)
  .rw [wm.mp hp];show(wX _ rfl,?_,Qv (wM I.lt hsz),I.nofs hsz,λv z=>by cases z)
   change upd (upd H a (.frz oc (.own 0))) T (.tbl #[rawInt lp.line,rawInt lp.col,.ref a]) h'.objs.size=AB
   rw[j _ (Qv (wM l7 hsz)) (Qv O)];show I.hok.fresh hsz
 .have F:s.heap.get? T=AA (PySem.W.tabObj #[rawInt lp.line,rawInt lp.col,.ref a]):=I.hok T _ i;show PySem.W.kla_makeFunctionHit (ps:= #[rawInt lp.line,rawInt lp.col,.ref a]) (cv:= .ref a) (z07 M) I.ok.glob R hc (C.keeps I.bk) F (by simp[TriplesOk,rawInt]) (by simp[codeAmong,rawInt]) N λct h' tk J hsz=>?_
  have x:Inv X A2 σ H {s with heap:=h'.push (z3y X params body scope ((X.mg "__name__").getD .none) a ct),toks:=tk}:=I.kept λb o e=>wo _ (J b o e)
  show h h'.objs.size a ct ((X.mg "__name__").getD .none) H _ Kp.refl (i,oc,vs,t,h2,h3,h4) (x.pins_of λp hp=>?_);rcases wA.mp hp with hp|hp
  .exact x.pin p (wE _ hp)
  .rw [wm.mp hp];show(wX _ rfl,I.hok.fresh hsz,Qv (wM I.lt hsz),I.nofs hsz,λv z=>by cases z)
end
noncomputable abbrev z9s(X:Cx)(A:Aj)(scope:Scope)(N:List Str)(f:AD)(cd:AC)(s:AE)(H:Hp):Cx:=
 {prog:=X.prog,w:=X.w,K:=X.K,mg:=X.mg,base:=X.base,A:=A.deeper (PySem.W.envX (X.env.qual ++ "<lambda>") scope s.heap.objs.size f cd (yV X.env scope.names [])),N:=N,s₀:=s,H₀:=H,
  env:=PySem.W.envX (X.env.qual ++ "<lambda>") scope s.heap.objs.size f cd (yV X.env scope.names []),A3:=X.stack,
  stack:=PySem.W.envX (X.env.qual ++ "<lambda>") scope s.heap.objs.size f cd (yV X.env scope.names [])::X.stack,ex:= [],fn:=λv=>false,calm:=true,pn:= [],xe:=λv v=>False}
variable{cd:AC}
section
variable{σ:St}{fr:List Str}{ix:List Nat}
theorem zaD{v:V}{u:AC}{h1:AN}{tk:Nat}(I:Inv X A2 σ H s)(S:CompSc X scope x fr ix)(K:scope.names.lookup x=AA .local)(N:∀y∈scope.names,y.2≠ .cell)(D:A.frames=AA X.stack)(O:A.handled=AB)(r:RelV v u)
  (F:h1.Ns s.heap.objs.size (λy=> [(x,u)].reverse.lookup y))(a:∀b o,s.heap.get? b=AA o->h1.get? b=AA o):
  Inv (z9s X A scope (x::fr) f cd s H) [] (sub σ ix (AA v)) H {s with heap:=h1,toks:=tk}:=by
 have d:=I.env0;have Q:∀y∈scope.names,y.2= .free->∃c,X.env.cells.lookup y.1=AA c:=λy hy a=>I.ok.has y.1 (S.clo y hy a)
 have look:∀y c,(yV X.env scope.names []).lookup y=AA c->X.env.cells.lookup y=AA c:=λy c e=>z2j scope.names [] Q (λy c e=>by simp at e) y c e
 have n:∀b:AD,b∉(z9s X A scope (x::fr) f cd s H).ex:=λb z=>absurd (show b∈([]:List AD)from z) (by simp)
 show((d.mod,S.kind,rfl,rfl,wy _,λy z c h1 h2=>I.ok.inj y z c (look y c h1) (look z c h2),λy hy=>?_,λy c z g=>absurd z wQ,λg=>O,Around.frames_deeper D,.inr (rfl,rfl),λb z=>absurd z (n b),d.bs,d.bsz,λb g g=>n b,λb z=>absurd z (n b),d.funs,d.frf),
  rfl,d.bare,Un.kept a,(_,F,λi y l h1 h2 Y=>?_),λy c h=>?_,I.hok.fresh (wy _),λy c h=>I.freeC y c (look y c h),λp L=>absurd (show p∈([]:List (AD×Obj))from L) (by simp),I.hok.kept a,?_)
 .have hy:scope.names.lookup y=AA .cell\/scope.names.lookup y=AA .free:=hy;rcases hy with hy|hy
  .exact absurd rfl (N _ (qZ hy))
  .exact z3a scope.names [] y (.inl (qZ hy))
 .cases i with
  | zero=>
   have E:x=y:=Option.some.inj h1;have R:AA v=AA l:=Option.some.inj h2;cases R;subst E;show(u,r,.inl (K,by simp))
  | succ k=>
   have G:fr[k]? =AA y:=h1;obtain⟨j,M,J,t⟩:=(S.free k y G);have B:(ix.map λj=>(σ[j]?).getD AB)[k]? =AA (AA l):=h2;rw[wK,M]at B;have hσ:(σ[j]?).getD AB=AA l:=Option.some.inj B;have hσ':σ[j]? =AA (AA l):=by
    cases q:σ[j]? with
    | none=>rw[q]at hσ;cases hσ
    | some o=>rw[q]at hσ;show QG AA hσ
   have C:=S.clo (y,.free) (qZ t) rfl;obtain⟨m,hn,hl⟩:=(I.loc);obtain⟨P,T,U⟩:=(hl j y l J hσ' (by
    rcases C with q|q
    .exact .inr (.inl q)
    .exact .inr (.inr q)))
   show(P,T,.inr (.inr t,?_));obtain⟨c,hc⟩:=z3a (env:=X.env) scope.names [] y (.inl (qZ t));show(c,hc,?_);rcases U with⟨q,_⟩|⟨_,c',e',z⟩
   .have q':X.env.kindOf y=AA .local:=q;rcases C with z|z
    .rw [q']at z;cases z
    .rw [q']at z;cases z
   .rw [look y c hc]at e';cases e';show z.keeps a
 .obtain⟨w,z⟩:=I.cell y c (look y c h);show(w,z.keeps a)
 .show(sub σ ix (AA v)).length=(x::fr).length
  unfold sub;rw[wP,wa,wP,S.len]
theorem zbi{pm ct u:AC}{v:V}{tb:TE}{Q:VK}(I:Inv X A2 σ H s)(F:(f,z3y X params body scope pm c ct)∈A2)(B:s.heap.CodeRec (.ref c) (X.env.qual ++ "<lambda>"))
  (S:CompSc X scope x fr ix)(i:scope.names.lookup x=AA .local)(j:∀y∈scope.names,y.2≠ .cell)(K:scope.isCoroutine=false)(R:scope.isGenerator=false)(t:A.frames=AA X.stack)(N:A.handled=AB)(l:A.depth<recursionLimit)
  (L:bindArgs (PySem.W.kla_fn "<lambda>" (X.env.qual ++ "<lambda>") params body scope (yV X.env scope.names []) pm (.ref c) ct) ([u],[])=pure [(x,u)])
  (n:∀A f cd s H,PE (z9s X A scope (x::fr) f cd s H) body tb)(r:RelV v u)(h:tb (sub σ ix (AA v)) H Q):AT (AV X.prog X.w) A (call (.ref f) [u]) (EP X A2 σ Q) E s:=by
 have O:s.heap.NoLimit:=I.nolimit;have D:codeAny (AV X.prog X.w) A (.call (.ref f) ([u],[])) (λr s'=>∃w,r= .ok (.ret w)/\CE X.stack X.prog X.w H s Q w s') s:=by
  show PySem.W.kla_callFunE l (I.pin _ (wE _ F)).1 rfl K R rfl B ?_;rw[L];show wN (wpAny_newFunctionEnv j (λy P=>?_) (λh1 C a=>(?_,?_)) S.kind)
  .rw [wm.mp P];show i
  .exact O.fresh _ a
  .have G:∀b o,s.heap.get? b=AA o->h1.get? b=AA o:=λb o e=>a.extBut b o (wS (wI e)) (wo _ e)
   have p:=zaD (f:=f) (cd:= .ref c) (tk:=s.toks+1) I S i j t N r C G
   change codeAny _ _ (.expr body (PySem.W.envX (X.env.qual ++ "<lambda>") scope s.heap.objs.size f (.ref c) (yV X.env scope.names []))) _ _
   show PySem.W.kla_codeExpr (qQ (n A f (.ref c) s H [] _ _ H Q p h) (λw s' d=>?_) λm m z=>z.elim);obtain⟨y,H',J,M,q⟩:=d;show(w,rfl,y,H',J.os,J.bare,J.base,J.hok,M,q)
 show w1g (w04 D λr s' d=>?_);obtain⟨w,rfl,d⟩:=d;show I.after d
end
theorem z5L{M:Model}{A:Aj}{E:AC->AE->Prop}{vs:List AC}{body:AC->PUnit->Sem (ForInStep PUnit)}{J:List AC->AE->Prop}
  (c:∀i x ks s,vs[i]? =AA x->ks.length=i->J ks s->AT M A (body x ⟨⟩) (λr s'=>r= .yield ⟨⟩/\∃k,J (ks++[k]) s') E s):
  ∀(r ks:List AC)(s:AE),(∀j x,r[j]? =AA x->vs[ks.length+j]? =AA x)->J ks s->AT M A (forIn r PUnit.unit body) (λv s'=>∃a,a.length=ks.length+r.length/\J a s') E s
 | [],ks,s,_,b=>by
  rw[List.forIn_nil];show wN (ks,by simp,b)
 | x::r,ks,s,d,b=>by
  rw[List.forIn_cons];show wu (qQ (c ks.length x ks s (d 0 x rfl) rfl b) (λq s' h=>?_) λv v x=>x);obtain⟨rfl,k,h2⟩:=h
  change AT M A (forIn r PUnit.unit body) _ E s'
  show qQ (z5L c r (ks++[k]) s' (λj y f=>?_) h2) (λ_ l ⟨a,e,q⟩=>(a,?_,q)) λv v x=>x
  .rw [wg,wZ,Nat.add_assoc,Nat.add_comm 1 j];show d (j+1) y f
  .rw [e,wg,wP,wP,QS]
   lia
variable{vs:List AC}
section
variable{σ:St}
theorem z9W{xs:List V}(a:zS xs vs){i:Nat}(h:i<xs.length):RelV (xs.getD i .non) (vs.getD i Value.none):=by
 obtain⟨u,e,r⟩:=a.get (wb h);rw[wx,wb h,wx,e];show r
def z5U{xs:List V}{vs:List AC}(b:zS xs vs):∀{a:List Nat},(∀j∈a,j<xs.length)->zS (a.map λi=>xs.getD i .non) (a.map λi=>vs.getD i Value.none)
 | [],_=> .nil
 | j::a,h=> .cons (z9W b (h j qI)) (z5U b λm hm=>h m (q5 _ hm))
end
theorem jR.neL{K:W.Frag}{P:AM}{w:Av}{H:Hp}{T a:AD}{lp:Pos}{q:Str}{xs:List V}(h:jR H T lp q)(e:Rd H a (.lst xs)):a≠T:=by
 rcases e with e|⟨o,e⟩
 .exact h.ne e λps z=>by cases z
 .exact h.ne e λps z=>by cases z
noncomputable def codeTabIn(K:W.Frag)(T:AD):Bool:=K.any λp=>PySem.W.codeHdIn K p.1 T
noncomputable def codeOf(K:W.Frag)(cd:AC)(T:AD):Bool:=match cd with
 | .ref c=>PySem.W.codeHdIn K c T
 | _=>false
variable{K:W.Frag}
theorem codeOf_ex(h:codeOf K cd T=true):∃c,cd= .ref c/\PySem.W.codeHdIn K c T=true:=by
 unfold codeOf at h;split at h
 .exact(_,rfl,h)
 .cases h
theorem z8x(X:K.In h)(e:codeTabIn K T=true):∃c,PySem.W.CodeHd h c T:=by
 obtain⟨p,_,a⟩:=w1e.mp e;show(p.1,w1J X a)
variable{Ts:List AD}
theorem zai{mg E:Str->Option AC}{CX:CXT}{k:Nat}{B a:AD}{c:AE}{ns:List Int}
  (L:K.In c.heap)(C:c.heap.Ns AK mg)(f:c.heap.Ns builtinsNs E)(nG:∀x:Str,x≠"__name__"->E x=bootBuiltins x)(pc:c.heap.NoLimit)(hg:c.gens= #[])
  (xj:∃bm i,mg "__builtins__"=AA (.ref bm)/\bm≠builtinsNs/\c.heap.get? bm=AA i/\i.cls= .type "module"/\i.dict=AA builtinsNs/\i.data= .plain)
  (p:∀T∈Ts,c.heap.get? T=AA (PySem.W.tabObj #[]))(lG:∀T∈Ts,isCodeTable c.heap T)(U:∀T∈Ts,K.lookup T=AB)
  (ha:c.heap.get? a=AA {cls:= .type "list",data:= .seq vs.toArray})(hi:IntsAre vs ns)(hl:ns.length<=AI)(hr:Room k callerA)
  (F:∀base:AN,K.In base->base.Ns AK mg->(∀T∈Ts,base.BuiltinsAt mg T)->FnOk P w K mg base CX k B fd [x] sp) (aR:∀(s:AE)(u:AC),BindsTo s fd ([u],[]) [(x,u)])
  (Y:∀H:Hp,SqL K H a (ns.map V.int)->(∀T∈Ts,H T=AA (.tbl #[]))->sp [.ref a] H (λv g=>v= .bl true) λg g g=>False)
  (R:∀H e s',CX [] H c (λg g g=>False) e s'->False):
  codeAny (AV P w) callerA (.call (.ref B) ([.ref a],[])) (λr s'=>r= .ok (.ret (.bool true))/\OldK c.heap s'.heap/\s'.os=c.os/\AllBare s'.gens) c:=by
 have N:=z6a hi;have Q:=hi.length;have S:a∉Ts:=λz=>by
  have:=p a z;rw[ha]at this;cases this
 have core:∀H:Hp,(∀b,H b=AB\/(b∈Ts/\H b=AA (.tbl #[]))\/(b=a/\K.lookup a=AB/\H b=AA (.frz {cls:= .type "list",data:= .seq vs.toArray} (.lst (ns.map V.int)))))->SqL K H a (ns.map V.int)->(∀T∈Ts,H T=AA (.tbl #[]))->
   codeAny (AV P w) callerA (.call (.ref B) ([.ref a],[])) (λr s'=>r= .ok (.ret (.bool true))/\OldK c.heap s'.heap/\s'.os=c.os/\AllBare s'.gens) c:=by
  intro H t hS X;have hok:HOk P w H c.heap:=λb u e=>by
   rcases t b with z|⟨m,z⟩|⟨rfl,_,z⟩
   .rw [z]at e;cases e
   .rw [z]at e;cases e;show p b m
   .rw [z]at e;cases e;show(ha,by rw[wa];show hl,vs,_,N,ha)
  have A:∀{b:AD} {o:Obj},c.heap.get? b=AA o->H b=AB->(z5h c.heap H).get? b=AA o:=λe n=>zcJ e n
  have noD:∀{b:AD} {o:Obj},c.heap.get? b=AA o->(∀xs n,o.data≠ .seq xs n)->(∀xs,o.data≠ .fields xs)->H b=none:=λ{b o} e d1 d2=>by
   rcases t b with z|⟨m,_⟩|⟨rfl,_,_⟩
   .exact z
   .have:=p b m;rw[e]at this;cases this;show absurd rfl (d2 _)
   .rw [ha]at e;cases e;show absurd rfl (d1 _ _)
  have O:∀{b:AD} {o:Obj} {es:Array DictEntry} {ep:Nat},c.heap.get? b=AA o->o.data= .dict es ep->H b=none:=λ{b o es ep} e d=>noD e (λxs n z=>by rw[d]at z;cases z) λxs z=>by rw[d]at z;cases z
  have y:∀{b:AD} {m:Str->Option AC},c.heap.Ns b m->(z5h c.heap H).Ns b m:=λ{b m} (o,es,ep,e,d,r)=>(o,es,ep,A e (O e d),d,r)
  have M:K.In (z5h c.heap H):=λb o e=>A (L b o e) (by
   rcases t b with z|⟨m,_⟩|⟨rfl,z,_⟩
   .exact z
   .rw [U b m]at e;cases e
   .rw [z]at e;cases e)
  have hM:Mod K mg (z5h c.heap H):=(M,y C,(E,y f,nG),let ⟨mc,h1,h2⟩:=pc;(mc,y h1,h2));have hB:∀T∈Ts,(z5h c.heap H).BuiltinsAt mg T:=λT m=>by
   obtain⟨bm,i,b1,b2,j,Z,b5,l⟩:=(xj);show(bm,i,b1,b2,λz=>?_,λz=>?_,A j (noD j (λxs n q=>by rw[l]at q;cases q) λxs q=>by rw[l]at q;cases q),Z,b5,l)
   .obtain⟨o,es,ep,e,d,_⟩:=C;rw[z,e]at j;cases j;rw[l]at d;cases d
   .have:=p T m;rw[<-z,j]at this;cases this;cases l
  have e0:Env0 P w K mg (z5h c.heap H) callerA [] c H:=(rfl,hM,λb o e=>ze1 e,w1P (zaW _ _),trivial,λb f=>absurd (show b∈([]:List AD)from f) (by simp),hok,.of_eq hg);show w04 ((F _ M (y C) hB).run callerA [] c H ([.ref a],[]) [.ref a] [.ref a] _ _ hr e0 (aR c (.ref a)) (.cons rfl .nil) (Y H hS X)) λr s' h=>?_
  cases r with
  | error e=>show(R H e s' h).elim
  | ok fl=>
   cases fl with
   | next=>show False.elim h
   | brk=>show False.elim h
   | cont=>show False.elim h
   | ret u=>
    obtain⟨v,H',os,bare,un,J,r',q⟩:=(h);have q':v= .bl true:=q;subst q';obtain rfl:u=Value.bool true:=r';have at':∀b o,c.heap.get? b=AA o->s'.heap.get? b=AA o\/(b∈Ts/\o=PySem.W.tabObj #[]/\∃more,s'.heap.get? b=AA (PySem.W.tabObj more)):=λb o e=>by
     rcases t b with z|⟨m,z⟩|⟨rfl,_,z⟩
     .exact .inl (un.keep b o e z (by intro z;show absurd (show b∈([]:List AD)from z) (by simp)) (by simp))
     .obtain⟨more,G⟩:=un.tbls b _ z;have D:s'.heap.get? b=AA (PySem.W.tabObj (#[]++more)):=J b _ G;have I:=p b m;rw[e]at I;show .inr (m,Option.some.inj I,_,D)
     .have G:=un.frzs b _ _ z;obtain⟨D,_⟩:=J b _ G;rw[ha]at e;cases e;show .inl D
    show(rfl,(λb o e=>?_,λb o e=>?_),os,bare)
    .rcases at' b o e with z|⟨m,rfl,more,z⟩
     .exact .inl z
     .exact .inr (.inl (lG b m,rfl,#[],more,rfl,by rw[Array.empty_append];show z))
    .rcases at' b o e with z|⟨m,rfl,more,z⟩
     .exact(_,z)
     .exact(_,z)
 cases hk:K.lookup a with
 | some o=>
  have e:=L a o hk;rw[ha]at e;cases e;show core (λb=>if b∈Ts then AA (.tbl #[])else AB) (λb=>?_) (.inr (_,vs.toArray,_,hk,rfl,rfl,rfl,by rw[wB,Q];show hl,by simpa using N)) λT m=>qc m
  by_cases m:b∈Ts
  .exact .inr (.inl (m,qc m))
  .exact .inl (wW m)
 | none=>
  show core (λb=>if b∈Ts then AA (.tbl #[])else if b=a then AA (.frz {cls:= .type "list",data:= .seq vs.toArray} (.lst (ns.map V.int)))else AB) (λb=>?_) (.inl (.inr ({cls:= .type "list",data:= .seq vs.toArray},(wW S).trans (qc rfl)))) λT m=>qc m
  by_cases m:b∈Ts
  .exact .inr (.inl (m,qc m))
  .by_cases f:b=a
   .exact .inr (.inr (f,hk,(wW m).trans (qc f)))
   .exact .inl ((wW m).trans (wW f))
theorem walk_ofT{l:PySem.W.OpenLaw}{n k:Nat}{q:AM}{loose:List Str}{J:(Str->Option AC)->AN->Prop}{r:Av->AN->Prop}{d:DefRec}{K:Params->W.Frag}{sp:Av->Sp}
  (hn:l.most=AA n)(M:n<=AI)(Q:d.params.defaults= [])(y:Room k callerA)
  (D:∀(w:Av)(h:AN),r w h->(K w.params).In h/\∀T∈Ts,h.get? T=AA (PySem.W.tabObj #[]))
  (N:∀(w:Av),∀T∈Ts,codeTabIn (K w.params) T=true)(A:∀(w:Av),∀T∈Ts,(K w.params).lookup T=AB)
  (F:∀(w:Av)(mg:Str->Option AC)(j:AD)(h:AN),(K w.params).In h->h.Ns AK mg->mg d.name=AA (.ref j)->
   ∃fd:A1,(∀(s:AE)(u:AC),BindsTo s fd ([u],[]) [(x,u)])/\
    ∀base:AN,(K w.params).In base->base.Ns AK mg->(∀T∈Ts,base.BuiltinsAt mg T)->FnOk l.prog w (K w.params) mg base CX0 k j fd [x] (sp w))
  (O:∀(w:Av)(H:Hp)(a:AD)(ns:List Int),ns.length<=n->SqL (K w.params) H a (ns.map V.int)->(∀T∈Ts,H T=AA (.tbl #[]))->sp w [.ref a] H (λv Z=>v= .bl true) λZ Z Z=>False):
  PySem.W.WalkO q loose J r l.row.toRowW d [] (λf vs=>PySem.call f vs):=by
 show Att.attach_call hn Q λw s₀ X mg U j o pm cd aY a vs ns G Y R hd S I P hints hlen E=>?_
 obtain⟨p,i⟩:=D w _ Y;obtain⟨fd,t,B⟩:=F w mg j _ p G.T.g I;show zai p G.T.g G.T.b G.T.builtins G.T.nolimit E G.T.bmain i (λT m=>by
  obtain⟨c,C⟩:=z8x p (N w T m);show(C.tab (i T m)).isCodeTable) (A w) P hints (wG hlen M) y B t (λH L i=>O w H a ns hlen L i) λH e s' z=>z
end
section
variable{X:Cx}
section
variable{A2:List (AD×Obj)}{σ:St}{H:Hp}{s:AE}
theorem z7q{f l:AD}{vs:List AC}{xs:List V}{kz:List Int}{E:AC->AE->Prop}{Q:AC->AE->Prop}(I:Inv X A2 σ H s)(hl:s.heap.IsList l vs.toArray)(rv:zS xs vs)(nj:vs.length<=1000000)(t9:kz.length=vs.length)
  (hc:∀(i:Nat)(u:AC)(pl:List (AD×Obj))(s':AE),vs[i]? =AA u->Inv X (A2++pl) σ H s'->
   AT (AV X.prog X.w) X.A.in1.in1 (call (.ref f) [u]) (λw r=>(∃t,w= .int (kz.getD i 0) t)/\Inv X (A2++pl) σ H r) (λk k=>False) s')
  (h:∀(D:AD)(d:List Nat)(s':AE),H D=AB->d.length=vs.length->(∀i∈d,i<vs.length)->Inv X A2 σ (upd H D (.lst (d.map λi=>xs.getD i .non))) s'->Q (.ref D) s'):
  AT (AV X.prog X.w) X.A (call (.builtin "sorted") [.ref l] [(Str.ofString "key",.ref f)]) Q E s:=by
 have hlen:=rv.length;show call_function_entry_kw kind_sorted plain_sorted entry_sorted (ksk_s1 _ _) ?_;unfold Builtin.«sorted»;show wu (m:=checkCount "sorted" 1 1 _) (wN ?_);show wu (collect_list hl ?_ (by rw[Qp];lia));show wu (wpAny_newList ?_ (by rw[Qp];lia));obtain⟨h1,iq⟩:∃h1,(s.heap.push (seqObj "list" #[] 0)).update s.heap.objs.size (Obj.mapSeq (·++vs.toArray))=h1:=(_,rfl)
 have kp1:∀b o,s.heap.get? b=AA o->h1.get? b=AA o:=λb o e=>by
  have B:=wI e;rw[<-iq,w1I _ _ _ _ (wS B)];show wo _ e
 have F:s.heap.objs.size<=h1.objs.size:=by rw[<-iq,Heap.size_update,Qi];lia
 rw[iq];have O:(h1.push (seqObj "list" vs.toArray 0)).get? h1.objs.size=AA (seqObj "list" vs.toArray 0):=wX _ rfl;generalize hD:h1.objs.size=D at O F ⊢;have R:H D=none:=I.hok.fresh F;have DL:D≠X.env.locals:=Qv (wM I.lt F);have Ds:X.s₀.heap.objs.size<=D:=wG I.sz F;have Dc:∀y c,X.env.cells.lookup y=AA c->c≠D:=λy c e=>by
  obtain⟨v,q⟩:=I.cell y c e;show wS (wM q.lt F)
 have Dp:∀p∈X.pn++A2,p.1≠D:=λp hp=>wS (wM (wI (I.pin p hp).1) F)
 show wu (Qo (wpAny_call_entry_kw slot_list_sort (_,O,rfl) entry_list_sort ?body (ksk_l1 _ _)))
 case body=>
 change AT (AV X.prog X.w) X.A.in1.in1 (Builtin.«list.sort» ([.ref D],[(Str.ofString "key",.ref f)])) _ _ _
 rw[ksk_t1];unfold ksk_tree;show wu (listItems_at O rfl ?_);show wu (w1y O rfl ?_ (by rw[wB,Qp];lia) (qN _));obtain⟨n,U⟩:∃n,((h1.push (seqObj "list" vs.toArray 0)).update D (Obj.mapSeq λk=>(#[]:Array AC))).get? D=AA (seqObj "list" #[] n):=(_,get?_update_seq O λk=> #[])
 obtain⟨h2,tf⟩:∃h2,(h1.push (seqObj "list" vs.toArray 0)).update D (Obj.mapSeq λk=>(#[]:Array AC))=h2:=(_,rfl)
 have kp2:∀b o,s.heap.get? b=AA o->h2.get? b=AA o:=λb o e=>by
  rw[<-tf,w1I _ _ _ _ (wS (wM (wI e) F))];show wo _ (kp1 b o e)
 rw[tf]at U ⊢;show wu (seqEpoch_at U rfl ?_);show wu (wpAny_newTuple ?_ (by change vs.length<=_;rw[Qp];lia));show wu (wpAny_newList ?_ (qN _));show Qo ?_;obtain⟨L,pe⟩:∃L,(h2.push (seqObj "tuple" vs.toArray 0)).push (seqObj "list" #[] 0)=L:=(_,rfl)
 obtain⟨a,Y⟩:∃a,(h2.push (seqObj "tuple" vs.toArray 0)).objs.size=a:=(_,rfl)
 have kp3:∀b o,h2.get? b=AA o->L.get? b=AA o:=λb o e=>by
  rw[<-pe];show wo _ (wo _ e)
 have xo:L.get? a=AA (seqObj "list" #[] 0):=by rw[<-pe,<-Y];show wX _ rfl
 have pi:D<a:=by rw[<-Y,Qi];show Qc (wI U)
 have G:s.heap.objs.size<=a:=wG F (w1M pi);have P:H a=none:=I.hok.fresh G;have T:a≠X.env.locals:=Qv (wM I.lt G);have tj:X.s₀.heap.objs.size<=a:=wG I.sz G;have kc:∀y c,X.env.cells.lookup y=AA c->c≠a:=λy c e=>by
  obtain⟨v,q⟩:=I.cell y c e;show wS (wM q.lt G)
 have pq:∀p∈X.pn++A2,p.1≠a:=λp hp=>wS (wM (wI (I.pin p hp).1) G)
 change AT (AV X.prog X.w) X.A.in1.in1 (ksk_rest D (.ref f) false vs.toArray n (.ref (h2.push (seqObj "tuple" vs.toArray 0)).objs.size)) _ _ {s with heap:=(h2.push (seqObj "tuple" vs.toArray 0)).push (seqObj "list" #[] 0)}
 rw[pe,Y];have Nf:∀{b:AD},s.heap.objs.size<=b->b∉X.fs:=λB=>I.nofs B
 have I3:Inv X (A2++[(a,seqObj "list" ([]:List AC).toArray 0),(D,seqObj "list" #[] n)]) σ H {s with heap:=L}:=(I.kept (t':=s.toks) λb o e=>kp3 b o (kp2 b o e)).pins_of λp hp=>by
  have I3:Inv X A2 σ H {s with heap:=L}:=I.kept (t':=s.toks) λb o e=>kp3 b o (kp2 b o e)
  rcases wA.mp hp with hp|hp
  .exact I3.pin p (wE _ hp)
  .rcases wF.mp hp with rfl|hp
   .exact(xo,P,T,Nf G,λv z=>by cases z)
   .rw [wm.mp hp];show(kp3 _ _ U,R,DL,Nf F,λv z=>by cases z)
 unfold ksk_rest;show wu (w1R ?_)
 first
  | rw[List.forIn_toArray]
  | (rw[<-Array.forIn_toList];simp only[List.toList_toArray])
  | rw[<-Array.forIn_toList]
 show wu (qQ (z5L (vs:=vs) (J:=λks s'=>ks.length<=vs.length/\zS ((kz.take ks.length).map V.int) ks/\∃e,Inv X (A2++[(a,seqObj "list" ks.toArray e),(D,seqObj "list" #[] n)]) σ H s') (λi x ks s' hx hi hJ=>?_) vs [] _ (λj y N=>by simpa using N) (qN _,.nil,0,I3)) (λk s' hq=>?_) λk k x=>x)
 .obtain⟨im,K,e,J⟩:=hJ;have xp:i<vs.length:=(we.mp hx).1;show wu (wpAny_attempt (qQ (hc i x _ s' hx J) (λk r hk=>?_) λk k hF=>hF.elim));obtain⟨⟨t,rfl⟩,M⟩:=(hk);have tq:=(M.pin (a,seqObj "list" ks.toArray e) (by simp)).1;have s1:=Heap.SameBut.update r.heap a (Obj.mapSeq (·.push (Value.int (kz.getD i 0) t)));have ea:(List.toArray ks).push (Value.int (kz.getD i 0) t)=List.toArray (ks++[Value.int (kz.getD i 0) t]):=by simp
  obtain⟨c2,cW⟩:∃c2,(r.heap.update a (Obj.mapSeq (·.push (Value.int (kz.getD i 0) t)))).get? a=AA (seqObj "list" (List.toArray (ks++[Value.int (kz.getD i 0) t])) c2):=(_,by rw[<-ea];show get?_update_seq tq (·.push (Value.int (kz.getD i 0) t)))
  try dsimp only
  show wu (w1y tq rfl ?_ (by rw[wB,Qp];lia) (wG (w1P (Array.size_push ..)) (by rw[wB,Qp];lia)));show wN (rfl,Value.int (kz.getD i 0) t,by rw[wg,wZ];lia,?_,c2,?_)
  .rw [wg,wZ,hi,qA,wb (by lia),wT];rw[hi]at K;show K.append (.cons (t,?_) .nil);rw[wx,wb (by lia)]
   rfl
  .have J3:Inv X (A2++[(D,seqObj "list" #[] n)]) σ H r:=M.pins_of λp hp=>by
    rcases wA.mp hp with hp|hp
    .exact M.pin p (wE _ (qj _ hp))
    .exact M.pin p (wE _ (wE _ (q5 _ hp)))
   have J4:Inv X (A2++[(D,seqObj "list" #[] n)]) σ H {r with heap:=r.heap.update a (Obj.mapSeq (·.push (Value.int (kz.getD i 0) t)))}:=J3.turned (it:=a) (t':=r.toks) (λb o B q=>(s1.2 b B).trans q) P T (.inr tj) kc λp hp=>by
    rcases wA.mp hp with hp|hp
    .exact pq p (qj _ hp)
    .rcases wA.mp hp with hp|hp
     .exact pq p (wE _ hp)
     .rw [wm.mp hp];show wS pi
   show J4.pins_of λp hp=>?_
   rcases wA.mp hp with hp|hp
   .exact J4.pin p (wE _ (qj _ hp))
   .rcases wF.mp hp with rfl|hp
    .exact(cW,P,T,Nf G,λv z=>by cases z)
    .exact J4.pin p (wE _ (wE _ hp))
 .obtain⟨ks,xq,im,K,e,J⟩:=hq;have Z:ks.length=vs.length:=by simpa using xq
  rw[Z,w1j (w1P t9)]at K
  try dsimp only
  have ok:=(J.pin (a,seqObj "list" ks.toArray e) (by simp)).1;have oD:=(J.pin (D,seqObj "list" #[] n) (by simp)).1;show wu (listItems_at ok rfl ?_);have fin:∀(d:List Nat)(st:SortSt),d.length=vs.length->(∀i∈d,i<vs.length)->(arrOf st).map (·.2)=(d.map λi=>vs.getD i Value.none).toArray->failedOf st=AB->
    AT (AV X.prog X.w) X.A.in1.in1 (ksk_tail D false n (.ref a) st) (λfin s'=>∃v,fin= .done (.ret v)/\wpAny (AV X.prog X.w) X.A.in1 (ret (.ref D)) (λfin s'=>∃v,fin= .done (.ret v)/\Q v s') E s') E s':=by
   intro d st pm S pz hf;have hsz:(d.map λi=>vs.getD i Value.none).length=vs.length:=by rw[wa,pm]
   have t1:=Heap.SameBut.update s'.heap a (Obj.mapSeq λk=>(#[]:Array AC));have pA:(s'.heap.update a (Obj.mapSeq λk=>(#[]:Array AC))).get? D=AA (seqObj "list" #[] n):=(t1.2 D (wS pi)).trans oD;have t2:=Heap.SameBut.update (s'.heap.update a (Obj.mapSeq λk=>(#[]:Array AC))) D (Obj.mapSeq λk=>(d.map λi=>vs.getD i Value.none).toArray);obtain⟨c3,nJ⟩:∃c3,((s'.heap.update a (Obj.mapSeq λk=>(#[]:Array AC))).update D (Obj.mapSeq λk=>(d.map λi=>vs.getD i Value.none).toArray)).get? D=AA (seqObj "list" (d.map λi=>vs.getD i Value.none).toArray c3):=(_,get?_update_seq pA λk=>(d.map λi=>vs.getD i Value.none).toArray)
   unfold ksk_tail
   try dsimp only
   rw[pz];show wu (w1y ok rfl ?_ (by rw[wB,Qp];lia) (qN _));show wu (wpAny_letGo ?_);show wu (seqEpoch_at pA rfl ?_);show wu (w1y pA rfl ?_ (qN _) (wG (w1P (by change(d.map λi=>vs.getD i Value.none).toArray.size=vs.length;rw[wB,hsz])) (by rw[Qp];lia)));rw[hf];simp only[bne_self_eq_false,w08,w0A];show wN (_,rfl,wN (_,rfl,?_));have J0:Inv X A2 σ H s':=J.pins_of λp hp=>J.pin p (wE _ (qj _ hp))
   have J1:Inv X A2 σ H {s' with heap:=s'.heap.update a (Obj.mapSeq λk=>(#[]:Array AC))}:=J0.turned (it:=a) (t':=s'.toks) (λb o B q=>(t1.2 b B).trans q) P T (.inr tj) kc pq;have M:Inv X A2 σ H {s' with heap:=(s'.heap.update a (Obj.mapSeq λk=>(#[]:Array AC))).update D (Obj.mapSeq λk=>(d.map λi=>vs.getD i Value.none).toArray)}:=Inv.turned (s:={s' with heap:=s'.heap.update a (Obj.mapSeq λk=>(#[]:Array AC))}) (it:=D) J1 (t':=s'.toks) (λb o B q=>(t2.2 b B).trans q) R DL (.inr Ds) Dc Dp;show h D d _ R pm S (M.adopt R DL Ds Dc Dp (?_,d.map λi=>vs.getD i Value.none,c3,z5U rv λj N=>?_,nJ))
   .rw [wa,pm];show zR (by lia)
   .rw [hlen];show S j N
  unfold ksk_end
  try dsimp only
  by_cases h2:vs.toArray.size<2
  .have c6:vs.length<2:=by simpa using h2
   rw[qc h2,qc h2];simp only[w08,w0A];show wu (wN ?_);rw[StateT.run_pure];show wu (wN ?_);show fin (List.range vs.length) _ List.length_range (λi hi=>w0g.mp hi) ?_ rfl
   .show(ks.toArray.zip vs.toArray).map (·.2)=_
    show z5O c6 Z
  .have c6:2<=vs.length:=by simpa using h2
   rw[wW h2,wW h2,ksk_kind (keys:=ks.toArray) (kz:=kz) (by simpa using intsAre_of K) (by simp;lia)];simp only[w08,w0A];show wu (wN ?_);show wu (qQ (z86 (κ:=oneType') Z λi j C hi N hC=>?_) ?_ λk k e=>e)
   .have at':∀m,m<vs.length->∃t,ks.getD m Value.none= .int (kz.getD m 0) t:=λm hm=>by
     obtain⟨u,eu,t,rfl⟩:=(K.get (i:=m) (x:= .int kz[m]) (by rw[wK,wb (by lia)];rfl));show(t,?_);rw[wx,eu,wx,wb (by lia)]
     rfl
    obtain⟨t,n⟩:=at' i hi;obtain⟨u,e2⟩:=at' j N
    change AT (AV X.prog X.w) X.A.in1.in1 (keyLt' oneType' (ks.getD i Value.none) (ks.getD j Value.none)) C (λk k=>False) s'
    rw[n,e2];show PySem.W.kat_lt_int (hC _)
   .rintro⟨⟨⟩,ad⟩ r ⟨rfl,h4,d,e0,pm,S⟩;show fin d ad pm S e0 h4
end
def zaU(T:AD)(lp:Pos)(q:Str)(te:TE)(ix:List Nat)(tb:TE):TE:=λσ H Q=>te σ H λx H1=>∃(l:AD)(xs:List V)(kz:List Int),x= .ref l/\Rd H1 l (.lst xs)/\xs.length<=1000000/\kz.length=xs.length/\jR H1 T lp q/\
 (∀H2,Kp T H1 H2->∀(i:Nat) v,xs[i]? =AA v->tb (sub σ ix (AA v)) H2 λy H'=>y= .int (kz.getD i 0)/\H'=H2)/\
 ∀(c:AD)(H2:Hp)(D:AD)(a:List Nat),Kp T H1 H2->z4u H2 T lp q c->H2 D=AB->a.length=xs.length->(∀i∈a,i<xs.length)->Q (.ref D) (upd H2 D (.lst (a.map λi=>xs.getD i .non)))
section
variable{scope:Scope}{x:Str}{fr:List Str}{ix:List Nat}{e body:Expr}{te tb:TE}{params:Arguments}{lp kp p pos:Pos}{T c:AD}{k:Nat}
theorem z7h(eA:X.calm=true)(hr:Room k X.A)(hg:Gl X "sorted")(hm:X.mg "sorted"=AB)(he:PE X e te)(hc:X.env.code= .ref c)(C:PySem.W.CodeHd X.base c T)(B:X.base.BuiltinsAt X.mg T)(S:CompSc X scope x fr ix)
  (U:∀A f cd s H,PE (z9s X A scope (x::fr) f cd s H) body tb)
  (gE:(scope.names.lookup x=AA .local)⁻¹)(ir: ~~~(∀y∈scope.names,y.2≠ .cell))(pb:(scope.isCoroutine=false)⁻¹)(R:(scope.isGenerator=false)⁻¹)(O:(defaultsOf params X.env=([],[]))⁻¹)
  (aR:∀(pm ct u:AC)(c:AD),bindArgs (PySem.W.kla_fn "<lambda>" (X.env.qual ++ "<lambda>") params body scope (yV X.env scope.names []) pm (.ref c) ct) ([u],[])=pure [(x,u)]:=by intro _ _ _ _;rfl)
  (hs:(AJ [e] X.env= [(false,eval e X.env)])⁻¹):
  PE X (.Call (.Name "sorted" p) [e] [(AA "key",.Lambda params body scope lp,kp)] pos) (zaU T lp (X.env.qual ++ "<lambda>") te ix tb):=by
 intro A2 s σ H Q I h;show Qj (z19 I hg hm PyProof.Rows.boot_sorted ?_ (by decide) (by decide));show callWith_kw (he:=by rw[hs];rfl) (hplain:=by rw[hs];rfl) (by
  rw[hs];show Qu (thn (he A2 s σ H _ I h) ?_);intro u s1 zz;obtain⟨y,H1,M,r1,l,xs,kz,N,a,nj,t9,j,hk,q⟩:=(zz);show w0n ?_;subst N;cases r1;show kws_cons ?_;show z7O M hc C B j O S.clo λf c' ct pm H2 s2 kp2 r L=>?_
  show kws_nil ?_;have Y:Rd H2 l (.lst xs):=by
   have n:=j.neL (K:=X.K) (P:=X.prog) (w:=X.w) a;rcases a with a|⟨o,a⟩
   .exact .inl (kp2 _ _ n a)
   .exact .inr (o,kp2 _ _ n a)
  obtain⟨vs,d,pl,hz⟩:=(L.list (.inl Y));have hlen:=d.length;show z7q (kz:=kz) L pl.isList d (by lia) (by lia) (λi u Z s3 F J=>?_) λD is s3 nD b pw J=>?_
  .have hi:i<xs.length:=by
    have:=(we.mp F).1
    lia
   have G:=z9W d hi;rw[wx (l:=vs),F]at G;show qQ (zbi (A:=X.A.in1.in1) (E:=λv v=>False) J (qj _ (wE _ (wm.mpr rfl))) (r.rec J.hok) S gE ir pb R (by show J.ok.frames) (J.ok.hd eA) (by show hr.depth) (aR _ _ _ _) U G (hk H2 kp2 i _ (by rw[wx,wb hi];rfl))) (λw s4 hw=>?_) λv v z=>z
   obtain⟨y,H',J4,ry,rfl,rfl⟩:=(hw);obtain⟨t,rfl⟩:=ry;show((t,rfl),J4)
  .refine(.ref D,_,J.pins_of λp hp=>J.pin p (wE _ (qj _ hp)),rfl,q c' H2 D is kp2 r nD (by rw[hlen];show b) (by rw[hlen];show pw)))
end
end
section
theorem z7p:∀{xs:List V} {us:List AC},zS xs us->zS xs.reverse us.reverse
 | _,_,.nil=> .nil
 | _,_,.cons r t=>by rw[QY,QY];show(z7p t).append (.cons r .nil)
variable{l:AD}{items:Array AC}
section
variable{prog:AM}{w:Av}{A:Aj}{E:AC->AE->Prop}{s:AE}{r:AD}
theorem z6N:typeLookup (.type "list_reverseiterator") "__len__"=pure none:=by rw[typeLookup_type,builtinLookup_eq_fast];kernel_rfl
theorem z5m:typeLookup (.type "list_reverseiterator") "__length_hint__"=pure (AA (.builtin "list_reverseiterator.__length_hint__")):=by rw[typeLookup_type,builtinLookup_eq_fast];kernel_rfl
theorem zbu{Q:Bool->AE->Prop}(c:s.TypeIs (.ref r) "list_reverseiterator")(h:Q false s):AT (AV prog w) A (Builtin.List.listLengthHint (.ref r)) Q E s:=by
 unfold Builtin.List.listLengthHint;show wu (wpAny_specialOf c z6N ?_)
 wp_delta
 show w1X (λa=>absurd a (by decide)) (λv=>?_);show wu (wpAny_specialOf c z5m ?_);generalize hid:("list_reverseiterator.__length_hint__":String)=id0
 wp_delta
 rw[show splitId id0=AA ("list_reverseiterator","__length_hint__")from by subst hid;decide];subst hid;show wu (wpAny_isInstance (T:="list_reverseiterator") (b:=true) c (by rw[isSubtype_type];kernel_rfl) ?_);show w1X (λa=>absurd a (by decide)) (λv=>?_);show w1X (λv=>?_) (λa=>absurd (by decide) a);show w1X (λa=>absurd a (by decide)) (λv=>?_);show wN h
theorem z8B{R:Result->AE->Prop}(K:A.handled=AB)(d:s.heap.IsRevIter r l ((items.size:Int)-1))(hl:s.heap.IsList l items)(M:l≠r)(S:AD)(y:S≠r)(D:S≠l)(res:AC)(u:Nat)(p:s.heap.get? S=AA {cls:= .type "list",data:= .seq #[] u})
  (J:∀h' tk j c,(∀b o,b≠S->b≠r->s.heap.get? b=AA o->h'.get? b=AA o)->h'.get? S=AA {cls:= .type "list",dict:=AB,data:= .seq j c,slots:= #[]}->ItemsOf (λi v=>items[items.size-1-i]? =AA v) j items.size->R (.ok (.ret res)) {s with heap:=h',toks:=tk})(hn:items.size<=AI):
  AT (AV prog w) A.in1 (Builtin.List.listExtendWith (.ref S) (.ref r) res)
   (λfin s'=>match fin with | .done f=>R (.ok f) s' | .again c=>c.quiet=true/\codeAny (AV prog w) A c R s') (λe s'=>R (.error e) s') s:=by
 have z:S∉ [r,l]:=by simp only[wF,qh,QE,not_or];show(y,D)
 have W:=Walks.listRev (prog:=prog) (w:=w) (A:=A.in1) K r l M items;unfold Builtin.List.listExtendWith;show wu (wpAny_typeOf (T:="list_reverseiterator") d.typeIs ?_);have h1:Builtin.List.listSameRef (.ref S) (.ref r)=false:=by simp[Builtin.List.listSameRef,y]
 have G:(Value.type "list_reverseiterator" == Value.type "list")=false:=by decide
 have C:(Value.type "list_reverseiterator" == Value.type "tuple")=false:=by decide
 simp only[h1,G,C,Bool.or_false,w08,w0A];have N:(items.size:Int)-1-((0:Nat):Int)=(items.size:Int)-1:=by lia
 have st:0<=items.size/\s.heap.IsRevIter r l ((items.size:Int)-1-((0:Nat):Int))/\s.heap.IsList l items:=(qN _,by rw[N];show d,hl);have bH:∀(h:AN)(n tk:Nat),(0<=items.size/\h.IsRevIter r l ((items.size:Int)-1-((0:Nat):Int))/\h.IsList l items)->(∀b o,b≠S->s.heap.get? b=AA o->h.get? b=AA o)->
   h.get? S=AA {cls:= .type "list",data:= .seq #[] n}->codeAny (AV prog w) A (.builtin "list.extend.loop" ([.ref S,.ref r,res],[])) R {s with heap:=h,toks:=tk}:=by
  intro h n tk O H L;show codeAny_extend_loopS W.toS hn S z res items.size 0 _ #[] n rfl (qN _) O L (ItemsOf.nil _) λs' j c hm P B=>?_
  rw[Moved.eq_with hm];show J s'.heap s'.toks j c (λb o a q e=>hm.heap b o (λc8=>?_) (H b o a e)) P B;rcases wF.mp c8 with E|c8
  .exact a E
  .exact q (wm.mp c8)
 show wu (wpAny_pyIter_revIter d ?_);show wu (Qo (zbu d.typeIs ?_));show w1X (λm=>?_) (λm=>wN (plainId_quiet PySem.F.plain_extend_loop _,bH _ u _ st (λb o m e=>e) p));show wu (w1R ?_);show wu ?_
 change AT _ _ (updateSeq S (·.push .none) >>= λm=>updateSeq S (·.pop)) _ _ _
 show wu (wpAny_updateSeq p rfl ?_);have t:=w06 (Obj.mapSeq (·.push Value.none)) p rfl;show wpAny_updateSeq (hz:=by seq_fits) t rfl ?_;have I:=w06 (Obj.mapSeq (·.pop)) t rfl;show wN (plainId_quiet PySem.F.plain_extend_loop _,bH _ _ _ ?_ (λb o a e=>?_) I)
 .refine W.frame 0 _ _ st λb a o e=>?_
  have x:b≠S:=λh=>z (h ▸ a)
  show(qS _ _ (w0K x)).trans ((qS _ _ (w0K x)).trans e)
 .exact(qS _ _ (w0K a)).trans ((qS _ _ (w0K a)).trans e)
theorem zbf{Q:AC->AE->Prop}(B:A.handled=AB)(j:s.heap.IsRevIter r l ((items.size:Int)-1))(hl:s.heap.IsList l items)(C:l≠r)(hn:items.size<=AI)
  (D:∀h' tk c h,(∀b o,b≠r->s.heap.get? b=AA o->h'.get? b=AA o)->h'.get? s.heap.objs.size=AA {cls:= .type "list",dict:=AB,data:= .seq c h,slots:= #[]}->ItemsOf (λi v=>items[items.size-1-i]? =AA v) c items.size->Q (.ref s.heap.objs.size) {s with heap:=h',toks:=tk}):
  AT (AV prog w) A (call (.type "list") [.ref r]) Q E s:=by
 show callType_codes (Q₁:=λobj q=>obj= .ref s.heap.objs.size/\q={s with heap:=s.heap.push {cls:= .type "list",data:= .seq #[]}}) PySem.F.called_list (PySem.F.typeCall_list_1 _) PySem.F.entry_list_init
  (code_list_new _ (rfl,rfl)) λobj q y=>?_
 obtain⟨rfl,rfl⟩:=y;have a:(s.heap.push {cls:= .type "list",data:= .seq #[]}).get? s.heap.objs.size=AA {cls:= .type "list",data:= .seq #[]}:=wX _ rfl;have n:r<s.heap.objs.size:=let ⟨o,ho,_⟩:=j;wI ho
 have p:l<s.heap.objs.size:=let ⟨o,ho,_⟩:=hl;wI ho
 show((_,a,rfl),PySem.F.args_list_init_2 _ _,?_)
 change AT _ _ (do let G<-Builtin.List.listItems (.ref s.heap.objs.size);Builtin.List.listUpdate (.ref s.heap.objs.size) (λm=> #[]);letGo G.toList.reverse;Builtin.List.listExtendWith (.ref s.heap.objs.size) (.ref r) .none) _ _ _
 show wu ?_;unfold Builtin.List.listItems;show wu (wpAny_seqItems a rfl (wN ?_))
 change AT _ _ (updateSeq s.heap.objs.size (λm=> #[]) >>= λm=>letGo (#[]:Array AC).toList.reverse >>= λm=>Builtin.List.listExtendWith (.ref s.heap.objs.size) (.ref r) .none) _ _ _
 show wu (wpAny_updateSeq a rfl ?_);have x:=w06 (Obj.mapSeq (λm=>(#[]:Array AC))) a rfl;have d:∀b o,b≠s.heap.objs.size->s.heap.get? b=AA o->((s.heap.push {cls:= .type "list",data:= .seq #[]}).update s.heap.objs.size (Obj.mapSeq (λm=>(#[]:Array AC)))).get? b=AA o:=
  λb o u e=>(qS _ _ (w0K u)).trans (wo _ e)
 show wu (wpAny_letGo ?_);show z8B (A:=A.in1) B (j.at λo e=>d r o (wS n) e) (hl.at λo e=>d l o (wS p) e) C _ (Qv n) (Qv p) .none _ x (λh' tk c h z H t=>?_) hn;show(rfl,D h' tk c h (λb o f e=>z b o (wS (wI e)) f (d b o (wS (wI e)) e)) H t)
end
section
variable{X:Cx}{e:Expr}{te:TE}{p p' pos pos':Pos}
def zbw(K:W.Frag)(te:TE):TE:=λσ H Q=>te σ H λx H1=>∃l xs,x= .ref l/\SqL K H1 l xs/\∀r,H1 r=AB->Q (.ref r) (upd H1 r (.lst xs.reverse))
theorem z8r(y:X.calm=true)(C:Gl X "list")(L:X.mg "list"=AB)(A:Gl X "reversed")(N:X.mg "reversed"=AB)(he:PE X e te)
  (hs:(AJ [.Call (.Name "reversed" p') [e] [] pos'] X.env= [(false,eval (.Call (.Name "reversed" p') [e] [] pos') X.env)])⁻¹)(f:(AJ [e] X.env= [(false,eval e X.env)])⁻¹):
  PE X (.Call (.Name "list" p) [.Call (.Name "reversed" p') [e] [] pos'] [] pos) (zbw X.K te):=by
 intro A2 s σ H Q I h;show Qj (z19 I C L qY ?_ (by decide) (by decide));show Qe (by
  rw[hs];show Qu ?_;show Qj (z19 I A N PyProof.Rows.boot_reversed ?_ (by decide) (by decide));show Qe (by
   rw[f];show Qu (thn (he A2 s σ H _ I h) ?_);intro u a zz;obtain⟨x,H1,d,r1,l,xs,ex,J,q⟩:=(zz);show w0n ?_;subst ex;cases r1;obtain⟨aa,n,pl,hz⟩:=(d.list J);have hlen:=n.length;show call_reversed_list pl.isList ?_;show w0n ?_;have F:l≠a.heap.objs.size:=by
    obtain⟨o,w,_⟩:=(pl.isList);show wS (wI w)
   have z:(a.heap.push (revObj l ((aa.toArray.size:Int)-1))).IsList l aa.toArray:=pl.isList.at λo e=>wo _ e
   show zbf (s:={a with heap:=a.heap.push (revObj l ((aa.toArray.size:Int)-1))}) (d.ok.hd y) (_,wX _ rfl,rfl,rfl) z F (by rw[wB];lia) λh' tk c M D E t=>?_
   have hsz:(a.heap.push (revObj l ((aa.toArray.size:Int)-1))).objs.size=a.heap.objs.size+1:=Qi ..;have kp:∀b o,a.heap.get? b=AA o->h'.get? b=AA o:=λb o e=>D b o (wS (wI e)) (wo _ e)
   have ea:c.toList=aa.reverse:=by
    obtain⟨r,B⟩:=t;show List.ext_getElem? λj=>?_
    by_cases hj:j<aa.length
    .have i:j<c.size:=by rw[r,wB];show hj
     have:=B j c[j] (Array.getElem?_eq_getElem i);rw[w0F,Array.getElem?_eq_getElem i,List.getElem?_reverse hj,<-this];simp
    .rw [w1t (by rw[QJ,r,wB];lia),w1t (by rw[w0x];lia)]
   have G:zS xs.reverse c.toList:=by rw[ea];show z7p n
   show(.ref _,upd H1 _ (.lst xs.reverse),d.laid (t':=tk) kp (by rw[hsz];show w0L _) (by rw[w0x];show hz,c.toList,M,G,?_),rfl,q _ (d.hok.fresh (by rw[hsz];show w0L _)));rw[E,Array.toArray_toList]) (by rw[f];rfl) (by rw[show AJ ([]:List Expr) X.env= []from rfl];rfl)) (by rw[hs];rfl) (by rw[show AJ ([]:List Expr) X.env= []from rfl];rfl)
end
end
section
end
end Lake

namespace Lake
section
open PySem PySem.Spec PyProof.Rows
end
section
open PySem PySem.Spec PyProof.Rows
end
end Lake

namespace Lake
open PySem PySem.Spec PyProof.Rows
open Builtin.SmallTypes (nextOf)
section
section
variable{prog:AM}{w:Av}
end
end
section
variable{t':Nat}{ch:List AD}
section
variable{X:Cx}{A2:List (AD×Obj)}{σ:St}{H:Hp}{s:AE}{h':AN}
theorem Inv.turnedL(I:Inv X A2 σ H s)(k:∀b o,b∉ch->s.heap.get? b=AA o->h'.get? b=AA o)(a:∀b∈ch,z3Y X A2 H b):Inv X A2 σ H {s with heap:=h',toks:=t'}:=by
 have d:∀b u,H b=AA u->b∉ch:=λb u e z=>by rw[(a b z).1]at e;cases e
 show I.step (g':=s.gens) (d':=s.drawn) (ch:=ch) (λb f=>?_) (λb o t t hc e t=>k b o hc e) (λb o t t hc e t=>(o.slots,k b o hc e)) (λt t t t n=>n)
  (λb o hc e=>(o,k b o hc e)) (λt t e=>e) (λt t t e=>e) (λb ps e=>(#[],by rw[e];simp)) (λm hm=>?_) (λb u e=>?_) I.bare
 .obtain⟨_,f1,_,i,j,l⟩:=a b f;show(i,f1,j,l)
 .obtain⟨o,es,ep,h,r⟩:=hm;show(o,es,ep,k _ o (λz=>(a _ z).2.1 rfl) h,r)
 .refine(I.hok b u e).stay (λc v hc q=>k c v ?_ q) (λt q=>q) λt t q=>q
  rcases hc with z|z
  .rw [z];show d b u e
  .exact d c _ z
theorem Inv.turnedLaid{a:AD}{o:HO}(I:Inv X A2 σ H s)(k:∀b o,b∉ch->s.heap.get? b=AA o->h'.get? b=AA o)(f:∀b∈ch,z3Y X A2 H b)(i:s.heap.objs.size<=a)
  (new:jh X.prog X.w (upd H a o) h' a o):Inv X A2 σ (upd H a o) {s with heap:=h',toks:=t'}:=by
 have h:∀b u,H b=AA u->b∉ch:=λb u e z=>by rw[(f b z).1]at e;cases e
 have hn:H a=none:=I.hok.fresh i;show I.step (g':=s.gens) (d':=s.drawn) (ch:=ch) (λb d=>?_) (λb o y y hc e y=>k b o hc e) (λb o y y hc e y=>(o.slots,k b o hc e)) (λb u y q n=>by rw[zn (wS (wM (wI q) i))];show n)
  (λb o hc e=>(o,k b o hc e)) (λb xs e=>by rw[zn (zr e hn)];show e) (λb y y e=>by rw[zn (zr e hn)];show e) (λb ps e=>(#[],by rw[zn (zr e hn),e];simp)) (λm hm=>?_) (λb u e=>?_) I.bare
 .obtain⟨_,f1,_,l,p,t⟩:=f b d;show(l,f1,p,t)
 .obtain⟨o,es,ep,j,r⟩:=hm;show(o,es,ep,k _ o (λz=>(f _ z).2.1 rfl) j,r)
 .by_cases d:b=a
  .subst d;rw[zm]at e;cases e;show new
  .rw [zn d]at e;show(I.hok b u e).stay (λc v hc q=>k c v ?_ q) (λc q=>?_) λc xs q=>?_
   .rcases hc with z|z
    .rw [z];show h b u e
    .exact h c _ z
   .rw [zn (zr q hn)];show q
   .rw [zn (zr q hn)];show q
end
end
end Lake

namespace Lake
open PySem
section
def zgV(σ:St):Prop:=∃b a,σ= [b,a]
theorem zeS{X:Cx}{scope:Scope}{x y:Str}{fr:List Str}{ix:List Nat}{px py tp:Pos}{k:Nat}(hc:X.calm=true)(S:CompScG X scope [x,y] fr ix)(b:scope.names.lookup x=AA .local)(c:scope.names.lookup y=AA .local)(C:AD)(cells:List (Str×AD))(s₀:AE)(H₀:Hp)(ex:List AD)(A2:List (AD×Obj)):
  PG (j9 X scope ([x,y]++fr) C cells s₀ H₀ ex A2) (.Tuple [.Name x px,.Name y py] k tp) (zeW X.K 2 (z7i (z1L 0) (z7i (z1L 1) zer))):=by
 have a:(j9 X scope ([x,y]++fr) C cells s₀ H₀ ex A2).env.scope.names.lookup x=AA .local:=yr (env:=X.env) b;have ly:(j9 X scope ([x,y]++fr) C cells s₀ H₀ ex A2).env.scope.names.lookup y=AA .local:=yr (env:=X.env) c;show zb7 (X:=j9 X scope ([x,y]++fr) C cells s₀ H₀ ex A2) hc (z2V (z0E (i:=0) S.nd rfl (.inl a) (.inr a)) (z2V (z0E (i:=1) S.nd rfl (.inl ly) (.inr ly)) z9Q))
end
section
open PySem PySem.Spec PyProof.Rows
noncomputable abbrev tx(l:List Nat):Str:=⟨l.toArray⟩
theorem app_list(x y:Str):(x++y).cps.toList=x.cps.toList++y.cps.toList:=by
 change(x.cps++y.cps).toList=_
 simp
theorem join_list(c:Nat):∀(a:Str)(r:List Str),(Str.join ⟨#[c]⟩ (a::r)).cps.toList=a.cps.toList++r.flatMap λp=>c::p.cps.toList
 | a,[]=>by
  change a.cps.toList=a.cps.toList++[]
  rw[w03]
 | a,b::r=>by
  change(a++⟨#[c]⟩++Str.join ⟨#[c]⟩ (b::r)).cps.toList=_
  rw[app_list,app_list,join_list c b r,List.flatMap_cons,w0p]
  rfl
end
section
open PySem PySem.Spec PyProof.Rows
variable{P:AM}{w:Av}{H:Hp}
theorem jh.there{h:AN}{a:AD}{o:HO}(x:jh P w H h a o):∃u,h.get? a=AA u:=by
 cases o with
 | lst xs=>obtain⟨_,_,_,_,e⟩:=x;show(_,e)
 | tup xs=>obtain⟨_,_,_,_,e,_⟩:=x;show(_,e)
 | dK kvs=>obtain⟨_,_,_,_,o,_,_,e,_⟩:=x;show(_,e)
 | dT kvs=>obtain⟨_,_,_,_,o,_,_,e,_⟩:=x;show(_,e)
 | set S n=>obtain⟨o,_,_,_,e,_⟩:=x;show(_,e)
 | ins C dx fs=>obtain⟨_,_,_,e,_⟩:=x;show(_,e)
 | own y=>show x
 | xd fs=>obtain⟨_,⟨_,_,_,e,_⟩,_⟩:=x;show(_,e)
 | rng lo hi=>obtain⟨_,_,_,e⟩:=x;show(_,e)
 | frz b u=>obtain⟨e,_⟩:=x;show(_,e)
 | tbl ps=>show(_,(show h.get? a=AA _ from x))
 | met f y=>show(_,(show h.get? a=AA _ from x))
 | ext φ=>obtain⟨_,e,_⟩:=x;show e
def TrX(h B:AN)(e C:AD)(fl:AC):Prop:=
 ∃a vs T c b,h.get? e=AA a/\a.cls= .ref C/\a.dict=AB/\a.data= .fields vs/\vs[1]? =AA (.ref T)/\B.get? T=AB/\T≠e/\h.get? T=AA c/\c.data= .fields b/\b[3]? =AA fl
theorem zaJ(o:Obj)(f:Array AC->Array AC):(Obj.mapFields f o).dict=o.dict:=by
 obtain⟨c,d,dt,a⟩:=o;cases dt<;>rfl
variable{X:Cx}{A2:List (AD×Obj)}{s:AE}{C:AD}{E:XK}{e:AC}
section
variable{σ:St}{h' B:AN}{b ea:AD}
def z7t(X:Cx)(A2:List (AD×Obj))(H:Hp)(b:AD):Prop:=((∃o,X.s₀.heap.get? b=AA o)/\b∉X.ex)\/(∃u,H b=AA u)\/∃p∈X.pn++A2,p.1=b
theorem z7t.there(n:z7t X A2 H b)(I:Inv X A2 σ H s):∃o,s.heap.get? b=AA o:=by
 rcases n with⟨⟨o,e⟩,hx⟩|⟨u,e⟩|⟨p,hp,rfl⟩
 .exact I.base.there b o e hx
 .exact(I.hok b u e).there
 .exact(_,(I.pin p hp).1)
theorem Inv.flown(I:Inv X A2 σ H s)(keep:∀b o,s.heap.get? b=AA o->b∉frs X.stack->z7t X A2 H b->h'.get? b=AA o)(up:s.heap.UpToSlots h'):Inv X A2 σ H {s with heap:=h'}:=by
 have nofr:∀b o,X.s₀.heap.get? b=AA o->b∉X.fs->b∉frs X.stack:=λb o e a z=>by
  rcases wF.mp (I.stkSub b z)with q|q
  .exact wS (wM (wI e) I.ok.above) q
  .exact a q
 have cellK:∀c v,s.heap.IsCell c v->h'.IsCell c v:=λc v ⟨o,C,hd⟩=>by
  obtain⟨F,q⟩:=up c o C λvs z=>by rw[hd]at z;cases z
  show(_,q,hd)
 show(I.ok,I.os,I.bare,(λb o e n a j=>?_,λb o e n a j=>?_,I.base.free,λb o e j=>?_,I.base.tups,I.base.frzs,I.base.tbls),?_,λx c e=>?_,I.free,I.freeC,λp A=>?_,λb u e=>?_,I.len)
 .exact keep b o (I.base.keep b o e n a j) (nofr b o e a) (.inl ((o,e),j))
 .obtain⟨F,f⟩:=I.base.slot b o e n a j;obtain⟨_,E,h,nf⟩:=I.funs.mem a;rw[f]at h;cases h;obtain⟨y,t⟩:=up b _ f nf;show(y,t)
 .obtain⟨B,f⟩:=I.base.there b o e j;by_cases a:b∈X.fs
  .obtain⟨_,E,h,nf⟩:=I.funs.mem a;rw[f]at h;cases h;obtain⟨y,t⟩:=up b _ f nf;show(_,t)
  .exact(B,keep b B f (nofr b o e a) (.inl ((o,e),j)))
 .obtain⟨m,hn,hl⟩:=I.loc;show(m,up.ns hn,λi x v f h t=>?_);obtain⟨u,r,l⟩:=hl i x v f h t;show(u,r,?_);rcases l with l|⟨k,c,e,z⟩
  .exact .inl l
  .exact .inr (k,c,e,cellK c _ z)
 .obtain⟨v,z⟩:=I.cell x c e;show(v,cellK c v z)
 .obtain⟨e,n,ne,nf,d⟩:=I.pin p A;show(keep p.1 p.2 e (λz=>?_) (.inr (.inr (p,A,rfl))),n,ne,nf,d);rcases wF.mp (I.stkSub p.1 z)with q|q
  .exact ne q
  .exact nf q
 .refine(I.hok b u e).stay (λc v hc q=>?_) (λg q=>q) λg g q=>q
  have D:∃u,H c=AA u:=by
   rcases hc with z|z
   .exact(u,by rw[z];show e)
   .exact(_,z)
  obtain⟨G,w⟩:=D;show keep c v q (λz=>by rw[I.stkFree c z]at w;cases w) (.inr (.inl (G,w)))
structure Fly(X:Cx)(A2:List (AD×Obj))(H:Hp)(B:AN)(ea C:AD)(h:AN):Prop where
 st:B.StaysIn h
 ne:B.get? ea=AB
 fr:h.FunFrames B X.stack
 tr:∃fl,TrX h B ea C fl
 cov:∀b o,h.get? b=AA o->b∉frs X.stack->z7t X A2 H b->B.get? b=AA o
theorem Fly.move(I:Inv X A2 σ H s)(F:Fly X A2 H B ea C s.heap)(st:B.StaysIn h')(fr:h'.FunFrames B X.stack)(tr:∃fl,TrX h' B ea C fl)(up:s.heap.UpToSlots h'):
  Inv X A2 σ H {s with heap:=h'}/\Fly X A2 H B ea C h':=by
 show(I.flown (λb o e nf nd=>st b o (F.cov b o e nf nd)) up,st,F.ne,fr,tr,λb o e nf nd=>?_);obtain⟨a,f⟩:=nd.there I;have d:=F.cov b a f nf nd;have c:=st b a d;rw[e]at c;cases c;show d
def z0X(X:Cx)(A2:List (AD×Obj))(σ:St)(E:XK)(e:AC)(s:AE):Prop:=
 ∃(ea C:AD)(B:AN)(H:Hp),e= .ref ea/\Inv X A2 σ H s/\Fly X A2 H B ea C s.heap/\E (.ref C) AB H
end
variable{M:Model}{A:Aj}{Q:Unit->AE->Prop}{f:Option AD}{env:Env}{A3:List Env}
section
variable{E0:AC->AE->Prop}{B:AN}{l:List Env}{e L:AD}{fl:AC}
theorem z8y(w:B.StaysIn s.heap)(hl:s.heap.FunFrames B l)(ht:TrX s.heap B e C fl)
  (h:∀h' x,B.StaysIn h'->h'.FunFrames B l->TrX h' B e C x->s.heap.UpToSlots h'->Q () {s with heap:=h'}):AT M A (setFlight (.ref e) f) Q E0 s:=by
 obtain⟨F,vs,T,G,j,he,y,D,hd,h1,n,p,i,d,E⟩:=(ht);have t:3<j.size:=(Array.getElem?_eq_some_iff.mp E).1;have c:∀b,b≠T->(s.heap.update T (Obj.mapFields (·.setIfInBounds 3 (f.elim Value.none λf=>rawInt f)))).get? b=s.heap.get? b:=λb a=>qS _ _ (w0K a)
 have r:∀b o,s.heap.get? b=AA o->(∀vs,o.data≠ .fields vs)->b≠T:=λb o a u q=>by
  subst q;rw[i]at a;cases a;show u j d
 unfold setFlight;show wu (w21 he hd h1 ?_);rw[qc (show(Value.ref T != Value.none)=true by simp)];show wpAny_setField i d t (h _ (f.elim Value.none λf=>rawInt f) (λb o q=>(c b λz=>by rw[z,n]at q;cases q).trans (w b o q))
  (hl.of_keeps λb o q nf=>(o,(c b (r b o q nf)).trans q,rfl)) ?_ λb o q nf=>(o.slots,(c b (r b o q nf)).trans q))
 show(F,vs,T,_,_,(c e (w0K p)).trans he,y,D,hd,h1,n,p,w06 _ i (Obj.isFreed_of_fields (Obj.data_mapFields d _)),Obj.data_mapFields d _,by simp[t])
theorem entry_any{c:Obj}{vs:Array AC}{head:AC}{G:Bool}(I:A.frames=AA (env::A3))(hl:s.heap.FunFrames B (env::A3))(H:env.frame=AA L)
  (he:s.heap.get? e=AA c)(hc:c.cls= .ref C)(J:c.dict=AB)(hd:c.data= .fields vs)(hsz:1<vs.size)(E:B.StaysIn s.heap)(F:B.get? e=AB)
  (h:∀h',B.StaysIn h'->h'.FunFrames B (env::A3)->TrX h' B e C (rawInt L)->s.heap.UpToSlots h'->Q () {s with heap:=h'}):
  AT M A (do let D<-frameOf env;let pl<-entryPlaceOf L G;let tb<-EntryCells.newEntry head D .none (rawInt L) .none pl;setField (.ref e) 1 tb) Q E0 s:=by
 have nofr:e∉(env::A3).filterMap (·.frame):=λhm=>by
  obtain⟨_,o,l,i⟩:=hl.mem hm;rw[he]at l;cases l;show i vs hd
 show wu (wpAny_frameOf_fun I hl H λa f=>wu (wpAny_entryPlaceOf λpl t=>?_));unfold EntryCells.newEntry newFields;show wu (w0o ?_ (t.sizeOk5 _ _ _ _ _));have r:a.get? e=AA c:=(f.2.1 e nofr).trans he;have w:∀b o,B.get? b=AA o->a.get? b=AA o:=λb o q=>(f.2.1 b λhm=>by rw[(hl.mem hm).1]at q;cases q).trans (E b o q)
 generalize hTo:({cls:= .type "traceback",dict:=AB,data:= .fields ([head,.ref L,.none,rawInt L,.none]++(if pl.isEmpty then List.replicate 6 Value.none else pl)).toArray}:Obj)=oT;have dT:oT.data= .fields ([head,.ref L,.none,rawInt L,.none]++(if pl.isEmpty then List.replicate 6 Value.none else pl)).toArray:=by rw[<-hTo]
 have p:=wo (h:=a) oT r;have x:a.objs.size≠e:=Qv (wI r);have keep:∀b o,b≠e->a.get? b=AA o->((a.push oT).update e (Obj.mapFields (·.setIfInBounds 1 (Value.ref a.objs.size)))).get? b=AA o:=λb o d q=>(qS _ _ (w0K d)).trans (wo _ q)
 have y:∀b o,s.heap.get? b=AA o->(∀vs,o.data≠ .fields vs)->b≠e:=λb o d i q=>by
  subst q;rw[he]at d;cases d;show i vs hd
 show wpAny_setField (s:={s with heap:=a.push oT}) p hd hsz (h _ ?_ ?_ ?_ ?_)
 .exact λb o q=>keep b o (λz=>by rw[z,F]at q;cases q) (w b o q)
 .refine hl.of_keeps λb o q nf=>?_
  obtain⟨u,j⟩:=f.2.2 b o q;show(_,keep b _ (y b o q nf) j,rfl)
 .have n:=Obj.data_mapFields hd (·.setIfInBounds 1 (Value.ref a.objs.size));show(_,_,a.objs.size,oT,_,w06 _ p (Obj.isFreed_of_fields n),(Obj.cls_mapFields _ _).trans hc,(zaJ _ _).trans J,n,by simp[hsz],?_,x,(qS _ _ (w0K x)).trans (wX a (by rw[<-hTo];rfl)),dT,?_)
  .cases q:B.get? a.objs.size with
   | none=>rfl
   | some o=>show absurd (wI (w _ o q)) (QF _)
  .first|(simp;done)|(rcases t with rfl|⟨_,_,_,_,_,_,_,rfl⟩<;>simp)
 .intro b o q nf;obtain⟨u,j⟩:=f.2.2 b o q;show(u,keep b _ (y b o q nf) j)
theorem zcM(D:A.frames=AA (env::A3))(hl:s.heap.FunFrames B (env::A3))(j:env.frame=AA L)(i:B.StaysIn s.heap)(u:B.get? e=AB)(ht:TrX s.heap B e C fl)
  (h:∀h',B.StaysIn h'->h'.FunFrames B (env::A3)->TrX h' B e C (rawInt L)->s.heap.UpToSlots h'->Q () {s with heap:=h'}):AT M A (noteFrame (.ref e) env) Q E0 s:=by
 obtain⟨I,vs,T,H,p,he,y,E,hd,h1,r,F,d,f,l⟩:=(id ht);unfold noteFrame;simp only[j];show wu (w21 he hd h1 ?_);rw[qc (show(Value.ref T != Value.none)=true by simp)];show wu (w21 d f l ?_);by_cases nM:fl=rawInt L
 .rw [qc (by rw[nM];simp)];subst nM;show wN (h s.heap i hl ht (.refl _))
 .have c:∀b,b≠T->(s.heap.update T (Obj.mapFields (·.setIfInBounds 3 Value.none))).get? b=s.heap.get? b:=λb a=>qS _ _ (w0K a)
  have n:∀b o,s.heap.get? b=AA o->(∀vs,o.data≠ .fields vs)->b≠T:=λb o a t q=>by
   subst q;rw[d]at a;cases a;show t p f
  rw[wW (show¬((fl == rawInt L)=true)from λq=>nM (Qb.mp q))];show wu (wpAny_setField d f (Array.getElem?_eq_some_iff.mp l).1 ?_);show entry_any D (hl.of_keeps λb o q nf=>(o,(c b (n b o q nf)).trans q,rfl)) j ((c e (w0K F)).trans he) y E hd (Array.getElem?_eq_some_iff.mp h1).1 (λb o q=>(c b λz=>by rw[z,r]at q;cases q).trans (i b o q)) u ?_;show λh' x1 G w x=>h h' x1 G w λb o q nf=>x b o ((c b (n b o q nf)).trans q) nf
theorem zbb{a:Env}{x:AC}(h:a.frame=env.frame):noteFrame x a=noteFrame x env:=by
 unfold noteFrame PySem.frameOf;rw[h]
end
section
variable{E0:AC->AE->Prop}{σ:St}
theorem z0X.flight(h:z0X X A2 σ E e s)(k:∀h',z0X X A2 σ E e {s with heap:=h'}->s.heap.UpToSlots h'->Q () {s with heap:=h'}):AT M A (setFlight e f) Q E0 s:=by
 obtain⟨ea,C,B,H,rfl,I,F,q⟩:=h;obtain⟨fl,ht⟩:=F.tr;show z8y F.st F.fr ht λh' b st fr tr up=>?_
 obtain⟨a,c⟩:=F.move I st fr (b,tr) up;show k h' (ea,C,B,H,rfl,a,c,q) up
theorem z0X.note(h:z0X X A2 σ E e s)(b:A.frames=AA X.stack)(hs:X.stack=X.env::X.A3)(c:X.env.frame=AA X.env.locals)(he:env.frame=X.env.frame)
  (k:∀h',z0X X A2 σ E e {s with heap:=h'}->s.heap.UpToSlots h'->Q () {s with heap:=h'}):AT M A (noteFrame e env) Q E0 s:=by
 obtain⟨ea,C,B,H,rfl,I,F,q⟩:=h;obtain⟨fl,ht⟩:=F.tr;rw[zbb he];show zcM (hs ▸ b) (hs ▸ F.fr) c F.st F.ne ht λh' st fr tr up=>?_
 obtain⟨a,d⟩:=F.move I st (hs ▸ fr) (_,tr) up;show k h' (ea,C,B,H,rfl,a,d,q) up
end
def CXR(P:AM)(w:Av):CXT:=λA3 H s E e s'=>∃(ea C:AD)(B:AN)(H':Hp),e= .ref ea/\s'.os=s.os/\AllBare s'.gens/\Un (frs A3) [] H H' s.heap s'.heap/\HOk P w H' s'.heap/\
 B.StaysIn s'.heap/\B.get? ea=AB/\s'.heap.FunFrames B A3/\(∃fl,TrX s'.heap B ea C fl)/\
 (∀b o,s'.heap.get? b=AA o->b∉frs A3->((∃o',s.heap.get? b=AA o')\/∃u,H' b=AA u)->B.get? b=AA o)/\E (.ref C) AB H'
section
variable{σ:St}{s':AE}
theorem z4E(I:Inv X A2 σ H s)(h:CXR X.prog X.w X.stack H s E e s'):z0X X A2 σ E e s':=by
 obtain⟨ea,C,B,H',rfl,os,bare,un,hok,st,ne,fr,tr,cov,q⟩:=h;show(ea,C,B,H',rfl,I.call' os un hok bare (λb z=>absurd z (by simp)),(st,ne,fr,tr,λb o e nf nd=>cov b o e nf ?_),q);rcases nd with⟨⟨o',e'⟩,hx⟩|nd|⟨p,hp,rfl⟩
 .exact .inl (I.base.there b o' e' hx)
 .exact .inr nd
 .exact .inl (_,(I.pin p hp).1)
theorem z5z(hs:X.stack=X.env::X.A3)(d:X.env.frame=AA X.env.locals)(a:X.ex= [])(h:z0X X A2 σ E e s):CXR X.prog X.w X.A3 X.H₀ X.s₀ E e s:=by
 obtain⟨ea,C,B,H,rfl,I,F,q⟩:=h;have fr:=F.fr;rw[hs]at fr;have c:Un (frs X.A3) [] X.H₀ H X.s₀.heap s.heap:=by
  have:=I.base;rw[a]at this;show this
 show(ea,C,B,H,rfl,I.os,I.bare,c,I.hok,F.st,F.ne,fr.2.2,F.tr,λb o e nf nd=>F.cov b o e (λz=>?_) ?_,q)
 .rcases wF.mp (I.stkSub b z)with z|z
  .subst z;rcases nd with⟨o',e'⟩|⟨u,e'⟩
   .exact QF _ (wM (wI e') I.ok.above)
   .rw [I.free]at e';cases e'
  .exact nf z
 .rcases nd with nd|nd
  .exact .inl (nd,by rw[a];simp)
  .exact .inr (.inl nd)
def z4j(X:Cx)(E:XK):Prop:=∀(A2:List (AD×Obj))(σ:St)(e:AC)(s:AE),z0X X A2 σ E e s->X.xe e s
def z4j.passes(h:z4j X E):z1i (CXR X.prog X.w) X E:=λA2 σ H s e s' I hc=>h A2 σ e s' (z4E I hc)
def zcF(X:Cx)(E:XK):Prop:=∀(A2:List (AD×Obj))(σ:St)(H:Hp)(s:AE)(h1:AN)(ea C:AD)(args:List AC),Inv X A2 σ H s->Heap.MadeExcOf s.heap h1 ea (.ref C) args->E (.ref C) AB H->X.xe (.ref ea) {s with heap:=h1}
theorem z3R{E0:AC->AE->Prop}(c:A.frames=AA X.stack)(hs:X.stack=X.env::X.A3)(a:X.env.frame=AA X.env.locals)(b:X.ex= [])(h:z0X X A2 σ E e s):
  AT M A (leaving X.env e) (λv s'=>CXR X.prog X.w X.A3 X.H₀ X.s₀ E e s') E0 s:=by
 unfold leaving;show wu (h.note c hs a rfl λh1 a1 v=>a1.flight λh2 a2 v=>z5z hs a b a2)
theorem z8l{E0:AC->AE->Prop}{h1:AN}{ea:AD}{args:List AC}(n:A.frames=AA X.stack)(hs:X.stack=X.env::X.A3)(c:X.env.frame=AA X.env.locals)(F:X.ex= [])
  (I:Inv X A2 σ H s)(hm:Heap.MadeExcOf s.heap h1 ea (.ref C) args)(q:E (.ref C) AB H):AT M A (leaving X.env (.ref ea)) (λv s'=>CXR X.prog X.w X.A3 X.H₀ X.s₀ E (.ref ea) s') E0 {s with heap:=h1}:=by
 obtain⟨t,he,G,ht⟩:=(hm.there);have i:∀b o,(PySem.W.hideAll s.heap (frs X.stack)).get? b=AA o->s.heap.get? b=AA o:=λb o z=>PySem.W.of_hideAll _ z
 have f:(PySem.W.hideAll s.heap (frs X.stack)).get? ea=none:=by
  cases z:(PySem.W.hideAll s.heap (frs X.stack)).get? ea with
  | none=>rfl
  | some o=>
   have:=i _ _ z;rw[hm.new]at this;cases this
 have hl:h1.FunFrames (PySem.W.hideAll s.heap (frs X.stack)) X.stack:=
  (PySem.W.funFrames_hide I.stack λenv D a ha=>List.mem_filterMap.mpr (env,D,ha)).of_keeps λb o l v=>(o,hm.keeps b o l,rfl)
 unfold leaving;show wu ?_;unfold noteFrame;simp only[c];show wu (w21 (s:={s with heap:=h1}) he rfl (x:= .none) rfl ?_);rw[wW (by decide)];show entry_any (s:={s with heap:=h1}) (B:=PySem.W.hideAll s.heap (frs X.stack)) (hs ▸ n) (hs ▸ hl) c he rfl rfl rfl (by simp) (λb o z=>hm.keeps b o (i b o z)) f ?_;intro h' st fr tr up;have r:s.heap.UpToSlots h':=(Heap.UpToSlots.of_keeps hm.keeps).trans up;have j:Inv X A2 σ H {s with heap:=h'}:=I.flown (λb o e nf v=>st b o (PySem.W.hideAll_get _ e nf)) r;have y:Fly X A2 H (PySem.W.hideAll s.heap (frs X.stack)) ea C h':=(st,f,hs ▸ fr,(_,tr),λb o e nf nd=>by
  obtain⟨u,p⟩:=nd.there I;have h:=PySem.W.hideAll_get _ p nf;have d:=st b u h;rw[e]at d;cases d;show h)
 have al:z0X X A2 σ E (.ref ea) {s with heap:=h'}:=(ea,C,_,H,rfl,j,y,q);show al.flight λh2 a2 v=>z5z hs c F a2
end
variable{sp:Sp}
section
variable{K:W.Frag}{mg:Str->Option AC}{base:AN}{N:List Str}{qual:Str}{scope:Scope}{f:AD}{cd:AC}
theorem jg:z4j (z1e (CXR P w) P w K mg base N qual scope f cd A A3 s H E) E:=λA2 σ e s' h=>by
 obtain⟨_,_,_,_,_,I,_⟩:=id h;show z3R (X:=z1e (CXR P w) P w K mg base N qual scope f cd A A3 s H E) I.ok.frames rfl rfl rfl h
def z2n:zcF (z1e (CXR P w) P w K mg base N qual scope f cd A A3 s H E) E:=λA2 σ H' s' h1 ea C args I hm q=>
 z8l (X:=z1e (CXR P w) P w K mg base N qual scope f cd A A3 s H E) I.ok.frames rfl rfl rfl I hm q
def z2b:PassesOwn (AV P w) (z1e (CXR P w) P w K mg base N qual scope f cd A A3 s H E).A (z1e (CXR P w) P w K mg base N qual scope f cd A A3 s H E).env (z1e (CXR P w) P w K mg base N qual scope f cd A A3 s H E).xe:=PassesOwn.leaving
theorem Fun.okX{x:Str}{st:Stmt}{fd:A1}{ps:List Str}{k:Nat}(F:Fun K x qual st f fd)(S:FnScope N ps (zj st))(len:∀vs H Q E,sp vs H Q E->vs.length=ps.length)
  (e:∀(ag:AC)(A:Aj)(A3:List Env)(s:AE)(H:Hp)(vs:List V)(Q:VK)(E:XK),Room k (A.deeper (envOfC qual (zj st) s.heap.objs.size f ag))->sp vs H Q E->
   ∃t,PSs (z1e (CXR P w) P w K mg base N qual (zj st) f ag A A3 s H E) (jN st) t/\t {nx:=λv H'=>Q .non H',rt:=Q} (start N vs) H):FnOk P w K mg base (CXR P w) (k+1) f fd ps sp:=by
 obtain⟨oc,od,kV,aY,pm,an,ag,ct,bW,rfl,d,b⟩:=(F.ex);show z93 d b S len λA A3 s H vs Q E a c=>e ag A A3 s H vs Q E a c
end
structure KnX(P:AM)(w:Av)(K:W.Frag)(mg:Str->Option AC)(base:AN)(k:Nat)(x:Str)(ps:List Str)(sp:Sp):Prop where
 ex:∃(f:AD)(fd:A1),FnOk P w K mg base (CXR P w) k f fd ps sp/\mg x=AA (.ref f)/\PySem.W.keepIn K (.ref f)=true/\Binds K fd ps []
section
variable{k:Nat}{x:Str}{ps:List Str}{e:Expr}{es:List Expr}{t:TA}{p pos:Pos}
theorem jo(C:KnX X.prog X.w X.K X.mg X.base k x ps sp)(a:z4j X E)(d:Room k X.A)(j:Gl X x)(ha:PA X (e::es) t)
  (i:x∣0)(he:e∣es)(h:((backTo pos (AJ es X.env)).any (·.1)=false)⁻¹):
  PE X (.Call (.Name x p) (e::es) [] pos) (z94 sp [] E t):=by
 obtain⟨f,fd,F,hm,b,c⟩:=(C.ex);show z9F F d j hm b c .nil a.passes ha i he h
end
end
section
open PySem PySem.Spec PyProof.Rows
def ffq{p:Prop}(h:false=true):p:=absurd h wQ
set_option tactic.hygienic true in
theorem zeU{m:List AC}{l:List (Option AC)}{f:AD->List AC->Option AC->Option AC->Option AC->Option AC->String->Option AC->Bool}(q:PySem.W.excIn.match_1 (λu u=>Bool) m l f (λu u=>false)=true):
  ∃C bm k0 k1 k2 k3 n k5,m= .ref C::bm/\l= [k0,k1,k2,k3,AA (.builtin n),k5]/\f C bm k0 k1 k2 k3 n k5=true:=by
 show Classical.byContradiction λa=>?_
 rcases m with _|⟨v,bm⟩
 .exact ffq q
 cases v
 case ref C=>
  iterate 4 (rcases l with _|⟨_,l⟩;show ffq q)
  rcases l with _|⟨w,l⟩
  .exact ffq q
  rcases w with _|w
  .exact ffq q
  cases w
  case builtin n=>
   rcases l with _|⟨k,_|⟨z,l⟩⟩
   .exact ffq q
   .exact a (_,_,_,_,_,_,_,_,rfl,rfl,q)
   .exact ffq q
  all_goals show ffq q
 all_goals show ffq q
variable{C:AD}
set_option tactic.hygienic true in
theorem zaA{K:W.Frag}{h:AN}{bmB:List AC}{newId:String}(X:K.In h)(q:PySem.W.excIn K C bmB newId=true):
  ∃bm N nm a bs hdct sn sub ab col dd k0 k1 k2 k3 k5 mN,h.get? C=AA (excClassObj nm a C N bs bm hdct sn sub ab col dd k0 k1 k2 k3 k5 newId)/\h.Ns N mN/\mN "__init__"=AB/\OwnTail h bmB bm:=by
 show Classical.byContradiction λe=>?_
 unfold PySem.W.excIn at q;cases ho:K.lookup C with
 | none=>rw[ho]at q;show ffq q
 | some o=>
  rw[ho]at q;obtain⟨f,dd,dt,i⟩:=(o);cases f
  case type n=>
   by_cases hn:n="type"
   .subst hn;cases dt
    case cls cd=>
     obtain⟨j,bm,k0,k1,k2,k3,n,k5,hm,hs,q⟩:=(zeU q);simp only[qX,Qb,Bool.not_eq_true']at q;obtain⟨⟨⟨⟨⟨rfl,rfl⟩,c⟩,ht⟩,hok⟩,b⟩:=(q);obtain⟨nm,bs,d,ns,a,hd,sn,sub,ab,col,p⟩:=(cd);obtain⟨l⟩:=i;dsimp only at hm c hok b hs;subst hm c hs;show e (bm,ns,nm,a,bs,hd,sn,sub,ab,col,dd,k0,k1,k2,k3,k5,_,X _ _ ho,.of_isNs (PySem.W.isNs_of_in X hok),PySem.W.nsMap_none_of_in X hok b,PySem.W.tail_of_in X ht)
    all_goals show ffq q
   .delta PySem.W.excIn.match_6 at q
    show ffq ((dif_neg hn).symm.trans q)
  all_goals show ffq q
noncomputable abbrev z2Q:List Value:= [.type "ValueError",.type "Exception",.type "BaseException",.type "object"]
variable{X:Cx}{x:Str}{e:Expr}{es:List Expr}{pos:Pos}
section
variable{E:XK}{t:TA}{np am:Pos}
def zbl(E:XK)(C:AD)(t:TA):TS:=λv σ H=>t σ H λvs H1=>vs.length<=AI/\E (.ref C) AB H1
theorem z2X(l:zcF X E)(hc:X.calm=true)(j:Gl X x)(hm:X.mg x=AA (.ref C))(b:PySem.W.excIn X.K C z2Q "ValueError.__new__"=true)(ha:PA X (e::es) t)
  (f:x∣0)(he:e∣es)(n:((backTo am (AJ es X.env)).any (·.1)=false)⁻¹):
  PS X (.Raise (AA (.Call (.Name x np) (e::es) [] am)) AB pos) (zbl E C t):=by
 intro A2 s σ H D I h;obtain⟨bm,N,nm,r,bs,hdct,sn,sub,ab,col,dd,k0,k1,k2,k3,k5,mN,b,i,o,T⟩:=(zaA I.mod.kin b);show wpAny_Raise_call_subU (C:=C) (nm:=nm) (q:=r) (N:=N) (bs:=bs) (bm:=bm) (hdct:=hdct) (sn:=sn) (sub:=sub) (ab:=ab) (col:=col) (dd:=dd) (k0:=k0) (k1:=k1) (k2:=k2) (k3:=k3) (k5:=k5) PySem.F.excBase_ValueError (bmB:=z2Q) (by decide) PySem.F.excBase_ValueError (mN:=mN)
  (T.hasType PySem.F.excBase_ValueError.hasBase) (I.ok.hd hc) (by rw[he];change(false||(backTo am (AJ es X.env)).any (·.1))=false;rw[n];rfl) o (z14 I j hm (rfl,?_) f)
 have h2:=ha am A2 s σ H _ I h;rw[he]at h2 ⊢;show w1z (qQ h2 (λus p ⟨vs,H2,a,r2,d⟩=>(rfl,by rw[<-r2.length];show d.1,a.bk _ _ b,i.keeps a.bk,T.keeps a.bk,λh' ea c=>l A2 σ H2 p h' ea C us a c d.2)) λv v y=>y)
end
variable{p:Pos}
section
variable{te:TE}
abbrev TJ:=Str->St->Hp->(Str->Hp->Prop)->Prop
def PJ(X:Cx)(es:List Expr)(t:TJ):Prop:=∀(A2:List (AD×Obj))(s:AE)(σ:St)(H:Hp)(a:Str)(Q:Str->Hp->Prop),Inv X A2 σ H s->t a σ H Q->
 Joins (AV X.prog X.w) X.A X.xe (evalEach es X.env) a (λout b=>∃H1,Inv X A2 σ H1 b/\Q out H1) s
def zga:TJ:=λa v H Q=>Q a H
def zfO(x:Str)(t:TJ):TJ:=λa σ H Q=>(a++x).length<=AI/\t (a++x) σ H Q
def zfR(te:TE)(t:TJ):TJ:=λa σ H Q=>te σ H λv H1=>∃y,v= .str y/\y.length<=AI/\(a++y).length<=AI/\t (a++y) σ H1 Q
def zcQ:PJ X [] zga:=λv v v H v v I h=>(H,I,h)
variable{t:TJ}
theorem zbK{j}(h:PJ X es t):PJ X (.Constant (.str x) j p::es) (zfO x t):=by
 intro A2 s σ H a Q I ht
 change AT _ _ (eval (.Constant (.str x) j p) X.env) _ _ s
 show Calls.Constant_str (x,_,rfl,ht.1,h A2 _ σ H _ Q (I.tok _) ht.2)
theorem zcs(he:PE X e te)(h:PJ X es t):PJ X (.FormattedValue e (-1) AB pos::es) (zfR te t):=by
 intro A2 s σ H f Q I ht
 change AT _ _ (eval (.FormattedValue e (-1) AB pos) X.env) _ _ s
 show wpAny_FormattedValue_plain (thn (he A2 s σ H _ I ht) ?_);rintro v i ⟨d,H1,a,r1,y,b,h1,h2,c⟩;subst b;obtain⟨tk,rfl⟩:=r1;show formatField_str (λt' tk=>(y,t',rfl,h2,h A2 _ σ H1 _ Q (a.tok _) c)) h1
def zem(t:TJ):TE:=λσ H Q=>t Str.empty σ H λout H1=>out.length<=AI/\Q (.str out) H1
theorem z9C{v1 v2:Expr}(h:PJ X (v1::v2::es) t):PE X (.JoinedStr (v1::v2::es) pos) (zem t):=by
 intro A2 s σ H Q I ht;show wpAny_JoinedStr ?_;have h1:=h A2 s σ H Str.empty _ I ht;have mono:∀(l:List (Sem AC))(d:Str)(s:AE)(c b:Str->AE->Prop),(∀o s,c o s->b o s)->Joins (AV X.prog X.w) X.A X.xe l d c s->Joins (AV X.prog X.w) X.A X.xe l d b s:=by
  intro l
  induction l with
  | nil=>intro d s c b k z;show k _ _ z
  | cons a r i=>
   intro d s c b k z;show thn z λv j ⟨y,t,f,h1,h2⟩=>(y,t,f,h1,i _ _ _ _ k h2)
 show mono _ _ _ _ _ (λo j ⟨H1,e,h1,q⟩=>(h1,.str o,H1,e.tok _,(_,rfl),q)) h1
end
section
variable{te:St->Hp->VK->XK->Prop}
abbrev TEX:=St->Hp->VK->XK->Prop
abbrev TSX:=Ends->XK->St->Hp->Prop
def PEX(X:Cx)(e:Expr)(t:TEX):Prop:=∀(A2:List (AD×Obj))(s:AE)(σ:St)(H:Hp)(Q:VK)(E:XK),Inv X A2 σ H s->t σ H Q E->
 AT (AV X.prog X.w) X.A (eval e X.env) (EP X A2 σ Q) (λx s'=>z0X X A2 σ E x s') s
def PSX(X:Cx)(st:Stmt)(t:TSX):Prop:=∀(A2:List (AD×Obj))(s:AE)(σ:St)(H:Hp)(D:Ends)(E:XK),Inv X A2 σ H s->t D E σ H->
 AT (AV X.prog X.w) X.A (exec st X.env) (SP X A2 D) (λx s'=>z0X X A2 σ E x s') s
def zfB(sp:Sp)(t:TA):TEX:=λσ H Q E=>t σ H λvs H1=>sp (vs++[]) H1 Q E
theorem z33{k:Nat}{ps:List Str}{sp:Sp}{t:TA}(C:KnX X.prog X.w X.K X.mg X.base k x ps sp)(i:Room k X.A)(l:Gl X x)(ha:PA X.nox (e::es) t)
  (j:x∣0)(he:e∣es)(o:((backTo pos (AJ es X.env)).any (·.1)=false)⁻¹):
  PEX X (.Call (.Name x p) (e::es) [] pos) (zfB sp t):=by
 intro A2 s σ H Q E I h;obtain⟨f,fd,F,hm,n,d⟩:=(C.ex);show Qj (z14 I l hm ?_ j);show w0D (h₀:=X.base) I.ok.mod.kin n (qQ (ha pos A2 s σ H _ (I.wish _) h) (?_) λv v z=>z.elim) he o;intro us c zz;obtain⟨vs,H1,b,r,q⟩:=(zz);show(b.unwish.kIn,?_);have J:=b.unwish;have r2:zS (vs++[]) (us++[]):=r.append .nil;have hl:(us++[]).length=ps.length:=by rw[<-r2.length];show F.len _ _ _ _ q
 show w1g (w04 (F.run X.A X.stack c H1 (us,[]) (us++[]) (vs++[]) Q E i J.env0 (d c us J.kIn hl) r2 q) λr s' a=>?_);cases r with
 | error z=>show z4E J a
 | ok fl=>
  cases fl with
  | ret u=>show J.after a
  | next=>show a.elim
  | brk=>show a.elim
  | cont=>show a.elim
def zgd(te:TEX):TSX:=λD E σ H=>te σ H (λv H1=>D.nx σ H1) E
theorem z3f{te:TEX}(he:PEX X e te)(hs:(swapsWith e AB pos.line X.env=pure false)⁻¹):PSX X (.Expr e pos) (zgd te):=by
 intro A2 s σ H D E I h;show wpAny_Expr_any (thn (he A2 s σ H _ E I h) λv c ⟨x,H1,b,r1,a⟩=>(σ,H1,b,a)) I.quiet hs
end
def ExcAt(ea C:AD)(h:AN):Prop:=∃o vs,h.get? ea=AA o/\o.cls= .ref C/\o.dict=AB/\o.data= .fields vs
theorem ExcAt.keeps{ea:AD}{h1 h2:AN}(x:ExcAt ea C h1)(k:∀o,h1.get? ea=AA o->h2.get? ea=AA o):ExcAt ea C h2:=by
 obtain⟨o,vs,e,r⟩:=x;show(o,vs,k o e,r)
end
section
open PySem PySem.Spec PyProof.Rows
variable{X:Cx}{j:Nat}
section
variable{A2:List (AD×Obj)}{σ:St}{H:Hp}{s:AE}{B:AN}{ea C:AD}
theorem Fly.nofr(F:Fly X A2 H B ea C s.heap):ea∉frs X.stack:=λz=>by
 obtain⟨_,o,a,b⟩:=F.fr.mem z;obtain⟨fl,f,vs,T,d,c,he,hc,e,hd,_⟩:=F.tr;rw[he]at a;cases a;show b vs hd
theorem Fly.noneed(F:Fly X A2 H B ea C s.heap):¬z7t X A2 H ea:=λz=>by
 obtain⟨fl,a,vs,T,c,b,he,_⟩:=F.tr;have:=F.cov ea a he F.nofr z;rw[F.ne]at this;cases this
theorem Inv.caught(I:Inv X A2 σ H s)(F:Fly X A2 H B ea C s.heap):H ea=AB/\Inv X A2 σ (upd H ea (.ext (ExcAt ea C))) s:=by
 have hn:H ea=none:=by
  cases q:H ea with
  | none=>rfl
  | some u=>show(F.noneed (.inr (.inl (u,q)))).elim
 obtain⟨fl,j,vs,T,y,w,he,hc,t,hd,_⟩:=(F.tr);show(hn,I.ok,I.os,I.bare,(I.base.keep,I.base.slot,λb o e n r=>?_,I.base.there,λb xs q=>?_,λb o u q=>?_,λb ps q=>?_),I.loc,I.cell,?_,λx c e=>?_,λp l=>?_,λb u e=>?_,I.len)
 .have i:b≠ea:=λz=>by
   subst z;show F.noneed (.inl ((o,e),r))
  rw[zn i];show I.base.free b o e n r
 .have a:=I.base.tups b xs q;rw[zn (zr a hn)];show a
 .have a:=I.base.frzs b o u q;rw[zn (zr a hn)];show a
 .obtain⟨more,a⟩:=I.base.tbls b ps q;show(more,by rw[zn (zr a hn)];show a)
 .rw [zn ?_]
  .exact I.free
  .intro z;obtain⟨m,⟨o,es,ep,f,h,_⟩,_⟩:=(I.loc);rw[z,he]at f;cases f;rw[hd]at h;cases h
 .rw [zn ?_]
  .exact I.freeC x c e
  .intro z;obtain⟨v,o,f,h⟩:=(I.cell x c e);rw[z,he]at f;cases f;rw[hd]at h;cases h
 .obtain⟨e,n,ne,nf,d⟩:=I.pin p l;show(e,by rw[zn (λz=>F.noneed (.inr (.inr (p,l,z))))];show n,ne,nf,d)
 .by_cases i:b=ea
  .subst i;rw[zm]at e;cases e;show((j,vs,he,hc,t,hd),(j,he),λh1 h2 x k=>x.keeps k)
  .rw [zn i]at e;show(I.hok b u e).stay (λg g g q=>q) (λc q=>by rw[zn (zr q hn)];show q) λc xs q=>by rw[zn (zr q hn)];show q
theorem Inv.gone{n:Str}{h':AN}{v:Option AC}{m:Str->Option AC}{t':Nat}(I:Inv X A2 σ H s)(K:X.N.Nodup)(A:X.N[j]? =AA n)(hn:X.env.scope.names.lookup n=AA .local)(hm:s.heap.Ns X.env.locals m)
  (h1:h'.Ns X.env.locals λx=>if x=n then v else m x)(hs:Heap.SameBut X.env.locals s.heap h'):Inv X A2 (σ.set j AB) H {s with heap:=h',toks:=t'}:=by
 obtain⟨Q,t,hl⟩:=(I.loc);have O:Q=m:=by
  obtain⟨o,es,ep,E,hd,T,M⟩:=(hm);obtain⟨o',Y,S,C,B,R,J⟩:=(t);rw[E]at C;cases C;rw[hd]at B;cases B
  funext x
  rw[<-M,<-J]
 subst O;obtain⟨Z,_,_,U,_⟩:=(id t);have neL:∀b o,X.s₀.heap.get? b=AA o->b≠X.env.locals:=λb o e=>wS (wM (wI e) I.ok.above)
 have hiσ:j<σ.length:=by rw[I.len];show(we.mp A).1
 show(I.ok,I.os,I.bare,(λb o e n l f=>?_,λb o e n l f=>?_,I.base.free,λb o e f=>?_,I.base.tups,I.base.frzs,I.base.tbls),(_,h1,λi y w a h F=>?_),λy c e=>?_,I.free,I.freeC,λp L=>?_,λb G e=>?_,by simpa using I.len)
 .exact(hs.2 b (neL b o e)).trans (I.base.keep b o e n l f)
 .obtain⟨P,a⟩:=I.base.slot b o e n l f;show(P,(hs.2 b (neL b o e)).trans a)
 .obtain⟨o',a⟩:=I.base.there b o e f;show(o',(hs.2 b (neL b o e)).trans a)
 .by_cases bI:i=j
  .subst bI;rw[w0z hiσ]at h;cases h
  .rw [List.getElem?_set_ne (w0K bI)]at h;obtain⟨u,r,q⟩:=(hl i y w a h F);show(u,r,?_);rcases q with⟨k,e⟩|⟨k,c,e,z⟩
   .have:y≠n:=λe=>bI (z52 K a (e ▸ A))
    show .inl (k,by simp[this,e])
   .exact .inr (k,c,e,z.sameBut hs (I.cne y c e))
 .obtain⟨D,z⟩:=I.cell y c e;show(D,z.sameBut hs (I.cne y c e))
 .obtain⟨e,n,ne,nf,d⟩:=I.pin p L;show((hs.2 p.1 ne).trans e,n,ne,nf,d)
 .refine(I.hok b G e).stay (λc D hc q=>(hs.2 c ?_).trans q) (λg q=>q) λg g q=>q
  rintro rfl;rcases hc with rfl|hc
  .rw [I.free]at e;cases e
  .rw [I.free]at hc;cases hc
noncomputable abbrev z30(X:Cx)(ea:AD):Cx:={X with A:=X.A.mark (AA (.ref ea)),calm:=false,xe:=λv v=>False}
theorem Inv.suite(I:Inv X A2 σ H s)(ea:AD):Inv (z30 X ea) A2 σ H s:=
 ((I.ok.mod,I.ok.kind,I.ok.glob,I.ok.blt,I.ok.above,I.ok.inj,I.ok.has,I.ok.cab,(λz=>by cases z),I.ok.frames,I.ok.stk,I.ok.exf,I.ok.bs,I.ok.bsz,I.ok.noex,I.ok.exfs,I.ok.funs,I.ok.frf),I.os,I.bare,I.base,I.loc,I.cell,I.free,I.freeC,I.pin,I.hok,I.len)
def Inv.unsuite(J:Inv (z30 X ea) A2 σ H s)(ok:X.Ok):Inv X A2 σ H s:=(ok,J.os,J.bare,J.base,J.loc,J.cell,J.free,J.freeC,J.pin,J.hok,J.len)
end
def zgk(tb:TSX)(a:TS)(K:W.Frag)(b:AD)(j:Nat):TS:=λD σ H=>tb D (λc v H1=>∃C,c= .ref C/\PySem.W.exmOne K (.ref C) (.ref b)=AA true/\∀ea,H1 ea=AB->
 a {nx:=λσ' H'=>D.nx (σ'.set j AB) H',rt:=D.rt,bk:=λσ' H'=>D.bk (σ'.set j AB) H',ct:=λσ' H'=>D.ct (σ'.set j AB) H'} (σ.set j (AA (.ref ea))) (upd H1 ea (.ext (ExcAt ea C)))) σ H
theorem zfl{st G:Stmt}{suite:List Stmt}{tb:TSX}{t:TS}{d n:Str}{U M pos:Pos}{o:AD}(aw:X.stack=X.env::X.A3)(P:X.env.frame=AA X.env.locals)(Z:PSX X st tb)(hg:Gl X d)(hm:X.mg d=AA (.ref o))
  (y:X.N.Nodup)(E:X.N[j]? =AA n)(hn:X.env.scope.names.lookup n=AA .local)(hs:∀ea,PSs (z30 X ea) (G::suite) t)(hd:d∣0):
  PS X (.Try [st] [.ExceptHandler (AA (.Name d U)) (AA n) (G::suite) M] [] [] pos) (zgk tb t X.K o j):=by
 intro A2 s σ H D I h;rw[arm_exec_Try];show wu (wpAny_standAt (wpAny_tryStmt_except ?_));show wpAny_execs_cons (qQ (Z A2 s σ H D _ I h) (λf s1 q=>?_) λe s1 al=>?_)
 .cases f with
  | next=>show w0U (w0U q)
  | ret v=>show q
  | brk=>show q
  | cont=>show q
 .refine al.note (X:=X) I.ok.frames aw P rfl λh2 a2 g=>a2.flight λh3 a3 g=>?_
  obtain⟨ea,C,B,L,rfl,i,x,C',ec,lO,hk⟩:=(a3);cases ec;have xB:(Value.ref ea)≠byPass:=by intro q;cases q
  show wpAny_handleBy_cons (codeAny_handlers_test ?_) xB;show z14 (X:=z30 X ea) (i.suite ea) hg hm ?_ hd;obtain⟨fl,oe,vs,T,oT,ET,he,hc,cK,fD,_⟩:=(id x.tr);have LT:PySem.W.Looks (AV X.prog X.w) h3 (typeOf (.ref ea)) (.ref C):=hc ▸ (PySem.W.Looks.ld he).andThen .now;show(PySem.W.exm_one i.kIn LT lO).here ?_;show codeAny_handlers_suite_as ?_;have Q:z0X X A2 σ (λc g H1=>c= .ref C/\H1=L) (.ref ea) _:=(ea,C,B,L,rfl,i,x,rfl,rfl);show Q.flight λh4 S g=>?_
  obtain⟨EU,C4,B4,H4,R,I4,F4,c4,rfl⟩:=(S);cases R;cases c4;obtain⟨xD,I5⟩:=I4.caught F4;show z4N I5 y E (.inl hn) (show RelV (.ref ea) (.ref ea)from rfl) (λY I6=>?_) (.inr hn);show qQ (hs ea A2 Y _ _ _ (I6.suite ea) (hk ea xD)) (λf p q=>?_) λg g z=>z.elim
  have fin:∀{σ':St} {H':Hp},Inv (z30 X ea) A2 σ' H' p->(∀a,Inv X A2 (σ'.set j AB) H' a->SP X A2 D f a)->
    AT (AV X.prog X.w) X.A (do bindName X.env n .none;unbindBehindTheSuite X.env n M) (λg a=>SP X A2 D f a) X.xe p:=λ{σ' H'} J k=>by
   have O:=J.unsuite I.ok;obtain⟨m,F,_⟩:=(O.loc);show wpAny_nameGoes_keeps hn F (by rw[I.ok.kind];rfl) λh8 v h1 l=>k _ (O.gone y E hn F h1 l)
  cases f with
  | next=>obtain⟨σ',H',J,q⟩:=(q);show fin J λa b=>(_,H',b,q)
  | brk=>obtain⟨σ',H',J,q⟩:=(q);show fin J λa b=>(_,H',b,q)
  | cont=>obtain⟨σ',H',J,q⟩:=(q);show fin J λa b=>(_,H',b,q)
  | ret u=>obtain⟨v,σ',H',J,r,q⟩:=(q);show fin J λa b=>(v,_,H',b,r,q)
end
section
open PySem PySem.Spec PyProof.Rows
end
end Lake

namespace Lake
open PySem PySem.Spec PyProof.Rows
section
variable{s:AE}{x D:AD}{K:W.Frag}
theorem zat{prog:AM}{w:Av}{A:Aj}{E:AC->AE->Prop}{ox:Obj}{Q:Option AC->AE->Prop}
  (p:PySem.W.findIn K (.ref D) "__getattribute__"=AA (AA (.builtin "BaseException.__getattribute__")))(L:PySem.W.findIn K (.ref D) "__getattr__"=AA AB)(H:PySem.W.subIn K (.ref D) (.type "BaseException")=AA true)
  (B:PySem.W.findObj K D AB "__class__"=AA (.bind (.builtin "getset_descriptor.__get__") (.builtin "object.__class__")))(hm:PySem.W.mroIn K D (.type "object")=AA true)
  (X:K.In s.heap)(I:PySem.W.InstAt s.heap x ox D AB)(h:Q (AA (.ref D)) {s with toks:=s.toks+1}):AT (AV prog w) A (getAttr? (.ref x) "__class__") Q E s:=by
 obtain⟨c,g,d,t,os⟩:=s;have e:=I.type (M:=AV prog w);have r:=PySem.W.looks_findIn (M:=AV prog w) X p;have Lake:=PySem.W.looks_findIn (M:=AV prog w) X L;have o:=PySem.W.looks_find (M:=AV prog w) X I B;have y:PySem.W.Looks (AV prog w) c (isInstance (.ref x) (.type "BaseException")) true:=e.andThen (PySem.W.looks_subIn X H);unfold getAttr? getAttrBy? getAttrBy;show wu (wpAny_mkText (wu (wpAny_attempt (Qo (wu (e.at (wu (r.at ?_))))))));have G:(Value.builtin "BaseException.__getattribute__" == Value.builtin "object.__getattribute__")=false:=by decide
 have l:(onTheHeap (Value.ref D)&&Value.builtin "BaseException.__getattribute__" == Value.builtin "object.__getattribute__")=false:=by rw[G];rfl
 dsimp only;rw[wW (by rw[l];show wQ)];unfold getAttrByItsOwn hookBefore;rw[qc (show onTheHeap (Value.ref D)=true from rfl)];show wu (Lake.at (wu ?_));show wpAny_attempt (Qo ?_);have q:=PySem.F.excAttr_ValueError.ga.bind (.ref x)
 change AT _ _ (boundAndCalled _ _ _) _ _ _
 unfold boundAndCalled;rw[q];show wu (wN ?_);show w1g (codeAny_call_builtin PySem.F.excAttr_ValueError.ga.plain F.entry_bexc_ga ?_);have C:builtinKind "BaseException.__getattribute__"=AA .slot:=by decide
 have j:splitId "BaseException.__getattribute__"=AA ("BaseException","__getattribute__"):=by decide
 simp only[checkBuiltinCall,C,j];show wu (y.at ?_);have ha:=F.args_bexc_ga (.ref x) (.str "__class__" t);rw[wW (show¬((!true)=true)from wQ)];have fin:AT (AV prog w) A.in1 (Builtin.«object.__getattribute__» ([.ref x,.str "__class__" t],[]))
   (λf s'=>match f with
    | .done (.ret v)=>AT (AV prog w) A (handedOut v) (λa b=>Q (AA a) b) (λm m=>False) s'
    | _=>False) (λm m=>False) (c,g,d,t+1,os):=by
  unfold Builtin.«object.__getattribute__»;show wu (wN (wu (wN (wu (e.at (wu (o.at ?_)))))))
  change AT _ _ (Builtin.ObjectAttr.bindTo _ _ _ _) _ _ _
  unfold Builtin.ObjectAttr.bindTo;dsimp only;show wu (Qo (w1g (PySem.W.class_get (s:=(c,g,d,t+1,os)) (ox:=ox) (od:=AB) X I hm ?_)));show wN (PySem.W.handed_on rfl h)
 show qQ (Q:=λm i=>i=(c,g,d,t+1,os)) (E:=λm m=>False) ?_ (λm i n=>?_) (λm m z=>z.elim)
 .cases hsig:Manifest.signature? "BaseException.__getattribute__" with
  | none=>show wN rfl
  | some u=>
   simp only[argsOk,hsig]at ha
   change AT _ _ (Bind.checkArgs _ _ ([.ref x,.str "__class__" t],[])) _ _ _
   rw[ha];show wN rfl
 .subst n;show qQ fin (λf s' z=>?_) (λm m z=>z.elim);rcases f with(_|_|_|_)|_<;>first|show qQ z (λv b J=>wN J) (λm m z=>z.elim)|show z.elim
structure ExcCls(K:W.Frag)(D:AD):Prop where
 ga:PySem.W.findIn K (.ref D) "__getattribute__"=AA (AA (.builtin "BaseException.__getattribute__"))
 gt:PySem.W.findIn K (.ref D) "__getattr__"=AA AB
 be:PySem.W.subIn K (.ref D) (.type "BaseException")=AA true
 hc:(PySem.W.clsIn K D).isSome=true
 ha:PySem.W.findIn K (.ref D) "__class__"=AA (AA (.builtin "object.__class__"))
 hn:PySem.W.specialIn K (.builtin "object.__class__") "__get__"=AA (AA (.builtin "getset_descriptor.__get__"))
 ht:PySem.W.takesIn K (.builtin "object.__class__")=AA true
 hm:PySem.W.mroIn K D (.type "object")=AA true
theorem z72{h:AN}(e:ExcAt x D h):∃ox,PySem.W.InstAt h x ox D none:=by
 obtain⟨o,vs,h1,h2,b,a⟩:=e;show(o,h1,h2,?_,?_)
 .unfold PySem.W.notCls;rw[a]
 .rw [b];show w0m
set_option tactic.hygienic true in
theorem zck(c:ExcCls K D):PySem.W.KitX K (.ref x) (.ref D) (λh=>ExcAt x D h) where
 ty:=λv v v e=>by obtain⟨ox,I⟩:=z72 e;show I.type
 it:=λv v X v=>by
  obtain⟨l,a⟩:=QL.mp c.hc;unfold PySem.W.clsIn at a;split at a
  .rename_i p d' d o b;intro t r u s' k q;unfold isType loadHead;show wu (wpAny_loadPart (k _ _ (X _ _ b)) (wN q))
  .cases a
 ne:=λh tp dd aa n y X i=>by
  obtain⟨l,a⟩:=QL.mp c.hc;show Qg.mpr λq=>?_
  have e:D=tp:=Value.ref.inj (Qb.mp q);subst e;unfold PySem.W.clsIn at a;split at a
  .rename_i p d' d o b;have z:=(X _ _ b).symm.trans i;cases z
  .cases a
 ca:=λ{prog w A E Q s} X e k=>by
  obtain⟨ox,I⟩:=z72 e;have j:PySem.W.findObj K D AB "__class__"=AA (.bind (.builtin "getset_descriptor.__get__") (.builtin "object.__class__")):=by
   obtain⟨cd,f⟩:=QL.mp c.hc;unfold PySem.W.findObj;rw[f,Option.bind_some,c.ha,Option.bind_some];simp[c.hn,c.ht]
  show zat c.ga c.gt c.be j c.hm X I k
section
variable{X:Cx}
theorem ya(e:X.K=K):kr X (.builtin "isinstance") (λxs H Q=>∃ea D y c b,xs= [.ref ea,y]/\(∀u,RelV y u->u=c)/\H ea=AA (.ext (ExcAt ea D))/\ExcCls K D/\PySem.W.kitOne K (.ref D) c=AA b/\Q (.bl b) H):=by
 subst e;intro A2 s σ H xs us Q I r h;obtain⟨ea,D,y,c,b,rfl,l,he,j,a,q⟩:=(h);obtain⟨u,i,rfl,d,f⟩:=(vals2 r);cases (show u=Value.ref ea from d);cases l i f;obtain⟨p,_,_⟩:=((show jh X.prog X.w H s.heap ea (.ext (ExcAt ea D))from I.hok ea _ he));show Qw (zck j) I.kIn p a (λz=>nomatch z) λtk=>(.bl b,H,I.tok _,rfl,q)
theorem zex{A2:List (AD×Obj)}{σ:St}{H:Hp}{i:Nat}{x:Str}{v:V}{pos:Pos}{Q:AC->AE->Prop}(I:Inv X A2 σ H s)(b:X.N[i]? =AA x)(d:Vis X.env.scope x)(e:σ[i]? =AA (AA v))(h:∀u,RelV v u->Q u s)
  (hd:x∣0)(a: ~~~((x == ("__classdict__":Str))=false)):AT (AV X.prog X.w) X.A (eval (.Name x pos) X.env) Q X.xe s:=by
 obtain⟨m,hn,hl⟩:=I.loc;obtain⟨u,r,l⟩:=hl i x v b e d;have fin:=h u r;rcases l with⟨hk,hm⟩|⟨hk,c,hc,aO⟩
 .exact wpAny_Name (wpAny_loadName_local I.ok.kind hk hn hm fin) hd
 .rcases hk with hk|hk
  .exact wpAny_Name (wpAny_loadName_cell I.ok.kind hk hc aO fin) hd
  .exact wpAny_Name (wpAny_loadName_free I.ok.kind hk hc aO fin a) hd
end
end
section
abbrev SpS:=List Env->AE->Sp
structure FnOkS(P:AM)(w:Av)(K:W.Frag)(mg:Str->Option AC)(base:AN)(CX:CXT)(k:Nat)(f:AD)(fd:A1)(ps:List Str)(sp:SpS):Prop where
 len:∀A3 s vs H Q E,sp A3 s vs H Q E->vs.length=ps.length
 run:∀(A:Aj)(A3:List Env)(s:AE)(H:Hp)(args:Args)(us:List AC)(vs:List V)(Q:VK)(E:XK),Room k A->Env0 P w K mg base A A3 s H->BindsTo s fd args (ps.zip us)->zS vs us->sp A3 s vs H Q E->
  codeAny (AV P w) A (.call (.ref f) args) (CR CX A3 P w H s Q E) s
variable{P:AM}{w:Av}{mg:Str->Option AC}{base:AN}{CX:CXT}{f:AD}{sp:SpS}
section
variable{K:W.Frag}
theorem Fun.okS{x qual:Str}{st:Stmt}{fd:A1}{N ps:List Str}{k:Nat}(F:Fun K x qual st f fd)(S:FnScope N ps (zj st))(len:∀A3 s vs H Q E,sp A3 s vs H Q E->vs.length=ps.length)
  (L:∀(ag:AC)(A:Aj)(A3:List Env)(s:AE)(H:Hp)(vs:List V)(Q:VK)(E:XK),Room k (A.deeper (envOfC qual (zj st) s.heap.objs.size f ag))->sp A3 s vs H Q E->
   ∃t,PSs (z1e CX P w K mg base N qual (zj st) f ag A A3 s H E) (jN st) t/\t {nx:=λm H'=>Q .non H',rt:=Q} (start N vs) H):FnOkS P w K mg base CX (k+1) f fd ps sp:=by
 obtain⟨oc,od,kV,aY,pm,an,ag,ct,bW,rfl,G,p⟩:=(F.ex);show(len,λA A3 s H args us vs Q E c a l r j=>?_);have hl:=len _ _ _ _ _ _ j;have h:K.In s.heap:=a.mod.kin.keeps λb o e=>(a.bs b o e).1
 have B:s.heap.NoLimit:=a.mod.nolimit.keeps λb o e=>(a.bs b o e).1
 have z:∀y∈ps.zip us,(zj st).names.lookup y.1=AA .local\/((zj st).names.lookup y.1=AA .cell/\((cellsFrom (s.heap.objs.size+1) (zj st).names []).lookup y.1).isSome=true):=λ⟨n,v⟩ C=>by
  rcases S.par n (List.of_mem_zip C).1 with q|q
  .exact .inl q
  .exact .inr (q,PySem.W.cellsFrom_some _ _ _ (.inl q))
 show codeAny_call_function c.depth (h _ _ G) rfl S.co S.gen rfl (PySem.W.codeRec_of h p) (l _ _ _ _ ?_);show wpAny_newFunctionEnv_cells S.kind z λenv he i x=>?_
 subst he;show(B.keeps x.toInCall.keep,codeAny_func ?_);obtain⟨t,ht,D⟩:=(L ag A A3 s H vs Q E (c.deeper _) j);have I:Inv (z1e CX P w K mg base N qual (zj st) f ag A A3 s H E) [] (start N vs) H i:=z66 S c.hd a hl r x;show qQ (ht [] i (start N vs) H _ I D) (λfl s' hs=>?_) λe s' hs=>hs
 have fin:∀{σ':St} {H':Hp} {v:V} {u:AC},Inv (z1e CX P w K mg base N qual (zj st) f ag A A3 s H E) [] σ' H' s'->RelV v u->Q v H'->CE A3 P w H s Q u s':=
  λ{σ' H' v u} J d q=>(v,H',J.os,J.bare,J.base,J.hok,d,q)
 cases fl with
 | ret u=>obtain⟨v,σ',H',J,d,q⟩:=(hs);show fin J d q
 | next=>obtain⟨σ',H',J,q⟩:=(hs);show fin (v:=V.non) (u:=Value.none) J rfl q
 | brk=>obtain⟨_,_,_,q⟩:=(hs);show False.elim q
 | cont=>obtain⟨_,_,_,q⟩:=(hs);show False.elim q
end
structure KnS(P:AM)(w:Av)(K:W.Frag)(mg:Str->Option AC)(base:AN)(CX:CXT)(k:Nat)(x:Str)(ps:List Str)(sp:SpS):Prop where
 ex:∃(f:AD)(fd:A1),FnOkS P w K mg base CX k f fd ps sp/\mg x=AA (.ref f)/\PySem.W.keepIn K (.ref f)=true/\Binds K fd ps []
structure WorkOk(P:AM)(w:Av)(K:W.Frag)(mg:Str->Option AC)(base:AN)(CX:CXT)(k:Nat)(fs:List AD)(H:Hp)(s:AE)(lf:AD)(sp:Sp):Prop where
 here:∀(s':AE)(H':Hp),Un fs [] H H' s.heap s'.heap->PySem.W.FnAt lf s'.heap
 run:∀(A:Aj)(A3:List Env)(s':AE)(H':Hp)(us:List AC)(vs:List V)(Q:VK)(E:XK),Room k A->Env0 P w K mg base A A3 s' H'->Un fs [] H H' s.heap s'.heap->zS vs us->sp vs H' Q E->
  codeAny (AV P w) A (.call (.ref lf) (us,[])) (CR CX A3 P w H' s' Q E) s'
noncomputable abbrev cxW(CX:CXT)(P:AM)(w:Av)(K:W.Frag)(mg:Str->Option AC)(base:AN)(A:Aj)(A3:List Env)(qual:Str)(scope:Scope)(N:List Str)(f:AD)(cd:AC)(cells:List (Str×AD))(s:AE)(H:Hp)(E:XK):Cx:=
 {prog:=P,w:=w,K:=K,mg:=mg,base:=base,A:=A.deeper (PySem.W.envX qual scope s.heap.objs.size f cd cells),N:=N,s₀:=s,H₀:=H,env:=PySem.W.envX qual scope s.heap.objs.size f cd cells,A3:=A3,
  stack:=PySem.W.envX qual scope s.heap.objs.size f cd cells::A3,ex:= [],fn:=λv=>false,calm:=true,pn:= [],
  xe:=λe s'=>AT (AV P w) (A.deeper (PySem.W.envX qual scope s.heap.objs.size f cd cells)) (leaving (PySem.W.envX qual scope s.heap.objs.size f cd cells) e) (λv a=>CX A3 H s E e a) (λb a=>CX A3 H s E b a) s'}
structure LamSc(scope:Scope)(a b y:Str):Prop where
 kind:scope.kind= .function
 co:scope.isCoroutine=false
 gen:scope.isGenerator=false
 la:scope.names.lookup a=AA .local
 lb:scope.names.lookup b=AA .local
 ly:scope.names.lookup y=AA .free
 nd: [a,b,y].Nodup
 nc:∀z∈scope.names,z.2≠ .cell
 only:∀z∈scope.names,z.2= .free->z.1=y
variable{scope:Scope}{s:AE}{H:Hp}{E:XK}
theorem zbn{K:W.Frag}{A:Aj}{A3:List Env}{qual:Str}{a b y:Str}{j:AD}{cd:AC}{h1:AN}{tk:Nat}{v1 v2 tv:V}{t r C:AC}
  (S:LamSc scope a b y)(J:A.handled=AB)(l:Env0 P w K mg base A A3 s H)(r1:RelV v1 t)(r2:RelV v2 r)(r3:RelV tv C)(hc:s.heap.IsCell j (AA C))(F:H j=AB)
  (G:h1.Ns s.heap.objs.size (λz=> [(a,t),(b,r)].reverse.lookup z))(u:∀b o,s.heap.get? b=AA o->h1.get? b=AA o):
  Inv (cxW CX P w K mg base A A3 qual scope [a,b,y] f cd [(y,j)] s H E) [] [AA v1,AA v2,AA tv] H {s with heap:=h1,toks:=tk}:=by
 have L:a≠b:=by have:=S.nd;simp at this;show this.1.1
 have look:∀z c,([(y,j)]:List (Str×AD)).lookup z=AA c->z=y/\c=j:=λz c e=>by
  rw[qM]at e;split at e
  .rename_i q;show(eq_of_beq q,(Option.some.inj e).symm)
  .cases e
 have B:∀d:AD,d∉(cxW CX P w K mg base A A3 qual scope [a,b,y] f cd [(y,j)] s H E).ex:=λd z=>absurd (show d∈([]:List AD)from z) (by simp)
 show((l.mod,S.kind,rfl,rfl,wy _,λx z c h1 h2=>(look x c h1).1.trans (look z c h2).1.symm,λx hx=>?_,λx c z v=>absurd z wQ,λv=>J,Around.frames_deeper l.frames,.inr (rfl,rfl),λb z=>absurd z (B b),l.bs,l.bsz,λb v v=>B b,λb z=>absurd z (B b),l.funs,l.frf),
  rfl,l.bare,Un.kept u,(_,G,λi x D h1 h2 M=>?_),λx c h=>?_,l.hok.fresh (wy _),λx c h=>?_,λp I=>absurd (show p∈([]:List (AD×Obj))from I) (by simp),l.hok.kept u,rfl)
 .have hx:scope.names.lookup x=AA .cell\/scope.names.lookup x=AA .free:=hx;rcases hx with hx|hx
  .exact absurd rfl (S.nc _ (qZ hx))
  .have:x=y:=S.only _ (qZ hx) rfl;subst this;show(j,by change([(x,j)]:List (Str×AD)).lookup x=AA j;simp)
 .match i,h1,h2 with
  | 0,h1,h2=>
   cases (show a=x from Option.some.inj h1);cases (show AA v1=AA D from Option.some.inj h2);show(t,r1,.inl (S.la,?_))
   change([(b,r),(a,t)]:List (Str×AC)).lookup a=AA t
   rw[qM,show(a == b)=false from by simpa using L];simp
  | 1,h1,h2=>
   cases (show b=x from Option.some.inj h1);cases (show AA v2=AA D from Option.some.inj h2);show(r,r2,.inl (S.lb,?_))
   change([(b,r),(a,t)]:List (Str×AC)).lookup b=AA r
   simp
  | 2,h1,h2=>
   cases (show y=x from Option.some.inj h1);cases (show AA tv=AA D from Option.some.inj h2);show(C,r3,.inr (.inr S.ly,j,by change([(y,j)]:List (Str×AD)).lookup y=AA j;simp,hc.keeps u))
  | n+3,h1,_=>cases h1
 .obtain⟨_,rfl⟩:=look x c h;show(_,hc.keeps u)
 .obtain⟨_,rfl⟩:=look x c h;show F
section
variable{X:Cx}{A2:List (AD×Obj)}{σ:St}{k:Nat}{T c:AD}{lp:Pos}{params:Arguments}{body:Expr}{a b y:Str}{j:Nat}{tv:V}{tb:XK->TE}
theorem zbr{pm ct:AC}(I:Inv X (A2++[(f,z3y X params body scope pm c ct)]) σ H s)(Z:z4u H T lp (X.env.qual ++ "<lambda>") c)(S:LamSc scope a b y)(D:X.env.kindOf y=AA .cell\/X.env.kindOf y=AA .free)(hN:X.N[j]? =AA y)(hσ:σ[j]? =AA (AA tv))
  (bx:yV X.env scope.names []= [(y,(X.env.cells.lookup y).getD 0)])
  (aR:∀(pm ct n l:AC)(c:AD),bindArgs (PySem.W.kla_fn "<lambda>" (X.env.qual ++ "<lambda>") params body scope (yV X.env scope.names []) pm (.ref c) ct) ([n,l],[])=pure [(a,n),(b,l)])
  (hb:∀A A3 f cd d s H E,Room k (A.deeper (PySem.W.envX (X.env.qual ++ "<lambda>") scope s.heap.objs.size f cd [(y,d)]))->PE (cxW CX X.prog X.w X.K X.mg X.base A A3 (X.env.qual ++ "<lambda>") scope [a,b,y] f cd [(y,d)] s H E) body (tb E)):
  WorkOk X.prog X.w X.K X.mg X.base CX (k+1) (frs X.stack) H s f (λvs H Q E=>∃v1 v2,vs= [v1,v2]/\tb E [AA v1,AA v2,AA tv] H Q):=by
 obtain⟨F,O,_⟩:=(I.pin _ (wE _ (wE _ (wm.mpr rfl))));obtain⟨d,C⟩:=I.ok.has y D;obtain⟨m,hn,hl⟩:=(I.loc);obtain⟨G,rt,lk⟩:=(hl j y tv hN hσ (by
  rcases D with q|q
  .exact .inr (.inl q)
  .exact .inr (.inr q)))
 have L:s.heap.IsCell d (AA G):=by
  rcases lk with⟨q,_⟩|⟨_,c',e',z⟩
  .rcases D with z|z
   .rw [q]at z;cases z
   .rw [q]at z;cases z
  .rw [C]at e';cases e';show z
 have M:H d=none:=I.freeC y d C;have pF:yV X.env scope.names []= [(y,d)]:=by rw[bx,C];rfl
 show(λs' H' un=>?_,λA A3 s' H' us vs Q E x p un r u=>?_)
 .obtain⟨P,e⟩:=un.any F O (by simp);show(_,_,_,_,e)
 .obtain⟨v1,v2,rfl,u⟩:=u;obtain⟨n,l,rfl,r1,r2⟩:=(vals2 r);obtain⟨P,e⟩:=un.any F O (by simp);have gN:s'.heap.IsCell d (AA G):=by
   obtain⟨o,B,hd⟩:=(L);obtain⟨P,e⟩:=un.any B M (by simp);show(_,e,hd)
  have pG:H' d=none:=by
   obtain⟨o,B,_⟩:=(L);show un.free d o B M (by simp)
  have gD:s'.heap.CodeRec (.ref c) (X.env.qual ++ "<lambda>"):=by
   obtain⟨_,oc,vs,t,h2,h3,h4⟩:=(Z);obtain⟨e,_⟩:=p.hok c _ (un.frzs _ _ _ h2);show(c,oc,vs,t,rfl,e,h3,h4)
  have gi:s'.heap.NoLimit:=p.mod.nolimit.keeps λb o e=>(p.bs b o e).1
  show PySem.W.kla_callFunE x.depth e rfl S.co S.gen rfl gD ?_;have R:=aR pm ct n l c;dsimp only at R ⊢;rw[R];show wN (wpAny_newFunctionEnv S.nc (λz hz=>?_) (λh1 dJ i=>(?_,?_)) S.kind)
  .simp only [wF,qh,QE]at hz;rcases hz with rfl|rfl
   .exact S.la
   .exact S.lb
  .exact gi.fresh _ i
  .have hk:∀b o,s'.heap.get? b=AA o->h1.get? b=AA o:=λb o e=>i.extBut b o (wS (wI e)) (wo _ e)
   have U:=zbn (CX:=CX) (qual:=X.env.qual ++ "<lambda>") (f:=f) (cd:= .ref c) (E:=E) (tk:=s'.toks+2) S x.hd p r1 r2 rt gN pG dJ hk
   change codeAny _ _ (.expr body (PySem.W.envX (X.env.qual ++ "<lambda>") scope s'.heap.objs.size f (.ref c) (yV X.env scope.names []))) _ _
   rw[pF];show PySem.W.kla_codeExpr (qQ (hb A A3 f (.ref c) d s' H' E (x.deeper _) [] _ _ H' Q U u) (λw Y hq=>?_) λe Y z=>z);obtain⟨v,H2,J,ry,q⟩:=(hq);show(v,H2,J.os,J.bare,J.base,J.hok,ry,q)
def zci(X:Cx)(CX:CXT)(k:Nat)(T:AD)(lp:Pos)(q:Str)(j:Nat)(tb:XK->TE)(sp:SpS)(E:XK)(te:TE):TE:=λσ H Q=>te σ H λv H1=>jR H1 T lp q/\∃tv,σ[j]? =AA (AA tv)/\
 ∀(lf c:AD)(H2:Hp)(a:AE),Kp T H1 H2->z4u H2 T lp q c->WorkOk X.prog X.w X.K X.mg X.base CX (k+1) (frs X.stack) H2 a lf (λvs H Q E=>∃v1 v2,vs= [v1,v2]/\tb E [AA v1,AA v2,AA tv] H Q)->sp X.stack a [v,.ref lf] H2 Q E
theorem z2O{k0:Nat}{F:Str}{ps:List Str}{p pos:Pos}{e:Expr}{te:TE}(C:KnS X.prog X.w X.K X.mg X.base CX k0 F ps sp)(hx:z1i CX X E)(hr:Room k0 X.A)(hg:Gl X F)(he:PE X e te)(hc:X.env.code= .ref c)(Y:PySem.W.CodeHd X.base c T)(B:X.base.BuiltinsAt X.mg T)
  (S:LamSc scope a b y)(M:X.env.kindOf y=AA .cell\/X.env.kindOf y=AA .free)(hN:X.N[j]? =AA y)
  (hb:∀A A3 f cd D s H E,Room k (A.deeper (PySem.W.envX (X.env.qual ++ "<lambda>") scope s.heap.objs.size f cd [(y,D)]))->PE (cxW CX X.prog X.w X.K X.mg X.base A A3 (X.env.qual ++ "<lambda>") scope [a,b,y] f cd [(y,D)] s H E) body (tb E))
  (bx:(yV X.env scope.names []= [(y,(X.env.cells.lookup y).getD 0)])⁻¹)
  (aR:∀(pm ct L o:AC)(c:AD),bindArgs (PySem.W.kla_fn "<lambda>" (X.env.qual ++ "<lambda>") params body scope (yV X.env scope.names []) pm (.ref c) ct) ([L,o],[])=pure [(a,L),(b,o)]:=by intro _ _ _ _ _;rfl)
  (ef:(defaultsOf params X.env=([],[]))⁻¹) (U:F∣0)
  (O:(AJ [e,.Lambda params body scope lp] X.env=(false,eval e X.env)::AJ [.Lambda params body scope lp] X.env)⁻¹) (P:(AJ [.Lambda params body scope lp] X.env= [(false,eval (.Lambda params body scope lp) X.env)])⁻¹) (aJ:((backTo pos (AJ [.Lambda params body scope lp] X.env)).any (·.1)=false)⁻¹):
  PE X (.Call (.Name F p) [e,.Lambda params body scope lp] [] pos) (zci X CX k T lp (X.env.qual ++ "<lambda>") j tb sp E te):=by
 obtain⟨f0,fd,t,hm,hk,iC⟩:=(C.ex);intro A2 s σ H Q I h;show Qj (z14 I hg hm ?_ U);show w0D (h₀:=X.base) I.ok.mod.kin hk ?_ O aJ;rw[O,P]
 change AT _ _ (spliced [(false,eval e X.env),(false,eval (.Lambda params body scope lp) X.env)]) _ _ s
 show Qu (thn (he A2 s σ H _ I h) ?_);intro u s1 zz;obtain⟨v,H1,R,r1,Z,tv,hσ,q⟩:=(zz);show Qu ?_;show z7O R hc Y B Z ef (λz hz n=>by rw[S.only z hz n];show M) λf c' ct pm H2 l kp2 x d=>w0n (d.kIn,?_)
 have W:=zbr (CX:=CX) (k:=k) d x S M hN hσ bx aR hb;have G:=q f c' H2 l kp2 x W;have hl:=t.len _ _ _ _ _ _ G;have rv:zS [v,.ref f] [u,.ref f]:= .cons r1 (.cons rfl .nil);have bF:([u,Value.ref f]++([]:List AC)).length=ps.length:=hl;have bd:=iC l [u,.ref f] d.kIn bF;rw[w03]at bd;show w1g (w04 (t.run X.A X.stack l H2 ([u,.ref f],[]) [u,.ref f] [v,.ref f] Q E hr d.env0 bd rv G) λr s' i=>?_);cases r with
 | error e=>show hx _ σ H2 l e s' d i
 | ok fl=>
  cases fl with
  | ret u=>
   obtain⟨v',H',J,eB,q'⟩:=(d.after i);show(v',H',J.pins_of λp hp=>J.pin p (wE _ (qj _ hp)),eB,q')
  | next=>show False.elim i
  | brk=>show False.elim i
  | cont=>show False.elim i
end
end
section
noncomputable def once(ks:List Str):List Str:=ks.foldl (λa k=>if k∈a then a else a++[k]) []
theorem z2d(ks:List Str)(k:Str):once (ks++[k])=if k∈once ks then once ks else once ks++[k]:=by
 unfold once;rw[List.foldl_append]
 rfl
theorem snoc_ind{α:Type}{P:List α->Prop}(h0:P [])(h1:∀l a,P l->P (l++[a]))(l:List α):P l:=by
 have:∀l:List α,P l.reverse:=λl=>by
  induction l with
  | nil=>show h0
  | cons a r b=>rw[QY];show h1 _ _ b
 have:=this l.reverse
 rwa [List.reverse_reverse]at this
theorem z3d{k:Str}(ks:List Str):k∈once ks↔k∈ks:=by
 show snoc_ind (P:=λks=>k∈once ks↔k∈ks) (by unfold once;simp) (λl a b=>?_) ks;rw[z2d];split
 .rename_i h;rw[wA,b];show(.inl,λz=>z.elim id λz=>?_);rw[wm.mp z]at b ⊢;show b.mp h
 .rw [wA,wA,b]
theorem z9E(ks:List Str):(once ks).length<=ks.length:=by
 show snoc_ind (P:=λks=>(once ks).length<=ks.length) (by unfold once;simp) (λl a b=>?_) ks;rw[z2d];split<;>simp only[wg,wZ]<;>lia
theorem z4w(ks:List Str):(once ks).length=ks.length↔ks.Nodup:=by
 show snoc_ind (P:=λks=>(once ks).length=ks.length↔ks.Nodup) (by unfold once;simp) (λl a b=>?_) ks;have f:=z9E l;rw[z2d];split
 .rename_i h;rw[z3d]at h;show(λz=>?_,λz=>?_)
  .rw [wg,wZ]at z;lia
  .exact absurd rfl ((QN.mp z).2.2 a h a (wm.mpr rfl))
 .rename_i h;rw[z3d]at h;rw[wg,wg];show(λz=>?_,λz=>?_)
  .have:=b.mp (by simpa using z);show QN.mpr (this,by simp,λx c y d e=>h (by rw[wm.mp d]at e;rw[<-e];show c))
  .rw [b.mpr (QN.mp z).1]
variable{ks:List Str}
section
variable{prog:AM}{w:Av}{A:Aj}
noncomputable abbrev tk(prog:AM)(w:Av):=PySem.strKind prog w
theorem zbD{R:Result->AE->Prop}{I:AD}{fp a:List AD}{G:Array GenState->Array GenState->Prop}{n:Nat}{l:Nat->AC->Prop}{St:Nat->AE->Prop}(W:WalksS prog w A.in1 I fp a G n l St){S:AD}(r:S∉fp)(hn:ks.length=n)
  (H:∀i v,l i v->∃t,v= .str (ks.getD i "") t)(N:n+1<scanBound):∀(k i:Nat)(s:AE),n-i=k->i<=n->St i s->s.heap.SetOf (tk prog w) S (λx=>decide (x∈ks.take i)) (once (ks.take i)).length->
   (∀s',Moved (S::a) G s s'->s'.heap.SetOf (tk prog w) S (λx=>decide (x∈ks)) (once ks).length->R (.ok (.ret .none)) s')->codeAny (AV prog w) A (.builtin "set.update.loop" ([.ref S,.ref I],[])) R s:=by
 have sub:∀b∈a,b∈S::a:=λb z=> .tail _ z
 have L:S∉a:=λz=>r (W.sub _ z)
 have j:∀{s s':AE} {g:Str->Bool} {m:Nat},Moved a G s s'->s.heap.SetOf (tk prog w) S g m->s'.heap.SetOf (tk prog w) S g m:=λhm ⟨o,es,ep,t,C,z⟩=>(o,es,ep,t,hm.heap S _ L C,z)
 intro k;induction k with
 | zero=>
  intro i s E hi st d fin;obtain rfl:i=n:=by lia
  rw[w1j (by lia)]at d;show codeAny_builtin PyProof.Rows.F.entry_set_update_loop (by
   rw[Around.under_plainId w0j _];show wu (W.done s _ _ st λs' hm=>wN (fin s' (hm.mono sub) (j hm d))))
 | succ k M=>
  intro i s E hi st d fin;have p:i<ks.length:=by lia
  show codeAny_builtin PyProof.Rows.F.entry_set_update_loop (by
   rw[Around.under_plainId w0j _];show wu (W.item i s _ _ (by lia) st λv s' D ad hm=>?_);obtain⟨t,rfl⟩:=H i v D;have B:=j hm d;have room:(once (ks.take i)).length+1<scanBound:=by
    have h1:=z9E (ks.take i);rw[qi]at h1
    lia
   have y:ks.getD i ""=ks[i]:=by rw[wx,wb p];rfl
   have u:ks.take (i+1)=ks.take i++[ks[i]]:=by rw[qA,wb p];rfl
   show wu (Qo (Qo (wu ((tk prog w).pyHash (k:=ks[i]) (v:= .str (ks.getD i "") t) ?_ ?_))))
   .rw [y];show strKind_is _ _ _ _
   show wpAny_setAddHashed_of (knd:=tk prog w) (k:=ks[i]) ?_ rfl B room λh' c f=>?_
   .rw [y];show strKind_is _ _ _ _
   have J:h'.SetOf (tk prog w) S (λx=>decide (x∈ks.take (i+1))) (once (ks.take (i+1))).length:=by
    show PyProof.Rows.SetOf_congr f (λx=>?_) ?_
    .show(decide (x∈ks.take i)||decide (x=ks[i]))=_
     rw[u,<-Bool.decide_or];show decide_eq_decide.mpr (by rw[wA,wm])
    .rw [u,z2d];by_cases hm:ks[i]∈ks.take i
     .rw [qc (by simpa using hm),qc ((z3d _).mpr hm)]
     .rw [wW (by simpa using hm),wW (λz=>hm ((z3d _).mp z)),wg];rfl
   show wN (plainId_quiet w0j _,M (i+1) _ (by lia) (by lia) (W.frame _ s' _ _ ad (w0L _) λb z o e=>?_) J λK h=>?_)
   .rw [c.2 b λq=>r (q ▸ z)];show e
   .refine fin K (Moved.trans W.gtrans ((hm.mono sub).then_heap (w0L _) λb o z e=>?_) h);rw[c.2 b λq=>z (q ▸ .head _)];show e)
noncomputable abbrev newSet(a:Bool):Obj:={cls:= .type "set",dict:=AB,data:= .set #[] 0 (.fresh 0 0 a)}
theorem zan{E:AC->AE->Prop}{s:AE}{l:AD}{items:List AC}{Q:AC->AE->Prop}(U:A.handled=AB)(hl:s.heap.IsList l items.toArray)(hi:zS (ks.map V.str) items)(j:ks.length+1<scanBound)
  (h:∀(h':AN)(n:Nat),h'.SetOf (tk prog w) s.heap.objs.size (λx=>decide (x∈ks)) (once ks).length->(∀b o,b<s.heap.objs.size->s.heap.get? b=AA o->h'.get? b=AA o)->Q (.ref s.heap.objs.size) {s with heap:=h',toks:=n}):
  AT (AV prog w) A (call (.type "set") [.ref l]) Q E s:=by
 have hlen:items.length=ks.length:=by rw[<-hi.length,wa]
 obtain⟨c,tl,xI⟩:=w1u.mro;have a1:=w1u.made;have a2:=w1u.sub;have a3:=w1u.notType;have a4:=w1u.canCreate;have a5:=F.typeCall_set_1 (.ref l);show w1g (codeAny_of_tree (wN (Code.quiet_builtin _ (by decide),codeAny_builtin F.entry_type_call ?_)));rw[Around.under_plain (weight_type_call_type "set" [.ref l] []) rfl]
 repeat (any_goals (first|assumption|wp_step))
 show w04 (code_set_new_1 (.ref l) (E:=E) (Q₁:=λo M=>∃a:Bool,o= .ref s.heap.objs.size/\M={s with heap:=s.heap.push {cls:= .type "set",dict:=AB,data:= .set #[] 0 (.fresh 0 0 a)}}) λa=>(a,rfl,rfl)) λr M f=>?_
 rcases r with e|(_|_|_|o)
 .exact f
 .exact f
 .exact f
 .exact f
 .obtain⟨a,rfl,rfl⟩:=f;have D:(s.heap.push (newSet a)).get? s.heap.objs.size=AA (newSet a):=wX _ rfl;have P:Shared.TypeIs {s with heap:=s.heap.push (newSet a)} (.ref s.heap.objs.size) "set":=(_,D,rfl);have b1:=w1u.init.lookup;have b2:=w1u.init.bind (.ref s.heap.objs.size)
  repeat (any_goals (first|assumption|wp_step))
  show w04 (codeAny_call_builtin (R:=wants (λr K=>r= .none/\∃h' n,K={s with heap:=h',toks:=n}/\h'.SetOf (tk prog w) s.heap.objs.size (λx=>decide (x∈ks)) (once ks).length/\∀b o,b<s.heap.objs.size->s.heap.get? b=AA o->h'.get? b=AA o) E)
   w1u.init.plain F.entry_set_init (check_set_init_1 P ?_)) λr2 K d=>?_
  .obtain⟨⟨oc,od,EV,os⟩,L,H,y,I⟩:=hl;simp only at H I;subst H I;have T:(s.heap.push (newSet a)).get? l=AA {cls:= .type "list",dict:=od,data:= .seq items.toArray y,slots:=os}:=wo _ L;have Z:=F.sub_list_set;have c3:=F.sub_list_frozenset;have c4:(Value.type "list" == Value.type "dict")=false:=by decide
   have C:(s.heap.push (newSet a)).IsList l items.toArray:=(_,T,rfl,y,rfl);unfold Builtin.«set.__init__» noKeywords Builtin.Frozenset.updateFrom;generalize hPI:pyIter=PI
   wp_walk
   subst hPI;have d1:l<s.heap.objs.size:=wI L;have d2:A.in1.in1.in1.handled=none:=by simp[U]
   have p:(s.heap.push (newSet a)).objs.size=s.heap.objs.size+1:=Qi _ _;show wpAny_pyIter_list C (wu (wpAny_runValue ?_));show zbD (ks:=ks) (S:=s.heap.objs.size) ((Walks.list d2 _ l (by rw[p];show wS (Qc d1)) items.toArray).toS) (λz=>(wF.mp z).elim (λe=>absurd (e.trans p) (wS (w0C _))) λz=>absurd (wm.mp z) (Qv d1)) (by simp[hlen]) (λi v z=>?_) (by simp[hlen];show j) _ 0 _ rfl (qN _) ((_,wX _ rfl,rfl,rfl),C.push _) ?_ ?_
   .have J:items[i]? =AA v:=by simpa using z
    have G:i<ks.length:=by rw[<-hlen];show(we.mp J).1
    obtain⟨u,B,X⟩:=hi.get (show(ks.map V.str)[i]? =AA (.str ks[i]) by rw[wK,wb G];rfl);rw[J]at B;cases B;obtain⟨t,rfl⟩:=X;show(t,by rw[wx,wb G];rfl)
   .have N:=wo (h:=s.heap.push (newSet a)) {cls:= .type "list_iterator",data:= .fields #[.ref l,.int 0 0]} D;show PyProof.Rows.SetOf_congr ((PyProof.Rows.setObjOf_fresh (knd:=tk prog w) a).setOf N (by unfold scanBound;lia)) (λm=>by simp) (by unfold once;rfl)
   .intro s' hm q;obtain⟨h',g',d',t',Y⟩:=s';obtain rfl:g'=s.gens:=hm.gens;obtain rfl:d'=s.drawn:=hm.drawn;obtain rfl:Y=s.os:=hm.os;show wN (wN (rfl,h',t',rfl,q,λb o j e=>?_));show hm.heap b o ?_ (wo _ (wo _ e));show λz=>(wF.mp z).elim (wS j) λz=>absurd ((wm.mp z).trans p) (wS (Qc j))
  .rcases r2 with e|(_|_|_|o)
   .exact d
   .exact d
   .exact d
   .exact d
   .obtain⟨rfl,h',n,rfl,q,O⟩:=d
    repeat (any_goals (first|assumption|wp_step))
    show h _ _ q O
end
end
section
def zeL(P:AM)(w:Av)(a:AD)(n:Nat)(h:AN):Prop:=∃S,h.SetOf (tk P w) a S n
variable{X:Cx}{P:AM}{w:Av}
theorem zbt{K:W.Frag}(n:X.prog=P)(f:X.w=w)(j:X.K=K)(hc:X.calm=true):kr X (.type "set") (λxs H Q=>∃l ks,xs= [.ref l]/\SqL K H l (ks.map V.str)/\ks.length<=1000/\∀a,H a=AB->Q (.ref a) (upd H a (.ext (zeL P w a (once ks).length)))):=by
 subst n f j;intro A2 s σ H xs us Q I r h;obtain⟨l,ks,rfl,hl,hn,q⟩:=(h);obtain⟨u,rfl,p⟩:=(r.one);cases (show u=Value.ref l from p);obtain⟨aa,x,pl,hz⟩:=(I.list hl);show zan (ks:=ks) (I.ok.hd hc) pl.isList x (by unfold scanBound;lia) λh' t' c i=>?_
 have d:∀b o,s.heap.get? b=AA o->h'.get? b=AA o:=λb o e=>i b o (wI e) e
 show(.ref _,_,I.laid d (wy _) ?_,rfl,q _ I.fresh);show((_,c),?_,λh1 h2 ⟨S,o,es,ep,t,e,z⟩ k=>(S,o,es,ep,t,k o e,z));obtain⟨o,es,ep,t,e,_⟩:=(c);show(o,e)
theorem z7V(i:X.prog=P)(f:X.w=w):kr X (.builtin "len") (λxs H Q=>∃a n,xs= [.ref a]/\H a=AA (.ext (zeL P w a n))/\Q (.int (n:Nat)) H):=by
 subst i f;intro A2 s σ H xs us Q I r h;obtain⟨a,n,rfl,ha,q⟩:=(h);obtain⟨u,rfl,j⟩:=(r.one);cases (show u=Value.ref a from j);obtain⟨⟨S,o,es,ep,t,e,c,hd,_,_,b,d,hn⟩,_,_⟩:=((show jh X.prog X.w H s.heap a (.ext (zeL X.prog X.w a n))from I.hok a _ ha));show call_len_set e c hd d (by unfold scanBound at b;lia) ?_;show(.int n,H,I.tok _,(_,by rw[hn]),q)
def zea:V->List V->Hp->VK->Prop:=λx vs H Q=>∃l xs y,x= .ref l/\vs= [.int 0,y]/\H l=AA (.lst xs)/\xs.length<AI/\Q .non (upd H l (.lst (y::xs)))
theorem zac:MtM X "list.insert" zea:=by
 intro A2 s σ H x vs v us Q I b f h;obtain⟨l,xs,y,rfl,rfl,a,hz,q⟩:=(h);cases b;obtain⟨i,u,rfl,r0,d⟩:=(vals2 f);obtain⟨c,rfl⟩:=r0;obtain⟨z,aa,n,r,hl,e⟩:=(I.lstM a);show w2c F.slot_list_insert (_,e,rfl) F.entry_list_insert (F.args_list_insert_3 _ _ _) (PySem.AutoSeq1.list_insert_list_int_val_1 l aa.toArray n 0 c u (by decide) (by rw[wB];lia)) (e,?_);show(.non,_,I.lset (its':=u::aa) a e (by simp) (.cons d r) ?_,rfl,q);rw[wP]
 lia
def zd7(K:W.Frag):R2:=λx y H Q=>∃a b xs ys,x= .ref a/\y= .ref b/\SqL K H a xs/\SqL K H b ys/\xs.all yD=true/\ys.all yD=true/\Q (.bl (!eqL xs ys)) H
theorem zaS{K:W.Frag}(w:X.K=K)(E:X.A.units+1<cLine):OpR X (compareOp .NotEq) (zd7 K):=by
 subst w;intro A2 s σ H x y v u Q I n z h;have f:X.A.units<cLine:=by lia
 obtain⟨a,b,xs,ys,rfl,rfl,ha,l,p,t,q⟩:=(h);cases n;cases z;obtain⟨aa,r,pl,hz⟩:=(I.list ha);obtain⟨F,r2,i,_⟩:=(I.list l);have l1:=r.length;have l2:=r2.length;by_cases hl:xs.length=ys.length
 .refine SeqAt.RcNeAt.lists (e:=λj=>eqV (xs.getD j .non) (ys.getD j .non)) pl.isList i.isList (by rw[wB,wB];lia) f (λj h1 h2=>?_) _ _ _ _ (.bl (!eqL xs ys),H,I,?_,q)
  .rw [wB]at h1;have d:xs[j]? =AA xs[j]:=wb (by lia);have c:ys[j]? =AA ys[j]:=wb (by lia);obtain⟨w1,o,D⟩:=(r.get d);obtain⟨w2,B,C⟩:=(r2.get c);rw[w0c,w0c,(we.mp o).2,(we.mp B).2,wx,wx,d,c];show z6h D C (qU.mp p _ (qB d)) (qU.mp t _ (qB c))
  .show Value.bool _=Value.bool _
   rw[eqL,qd hl,w1V,wB,<-l1]
 .refine SeqAt.RcNeAt.lists_lengths pl.isList i.isList ?_ f _ _ _ _ (.bl (!eqL xs ys),H,I,?_,q)
  .rw [wB,wB,bne_iff_ne,<-l1,<-l2];show hl
  .show Value.bool true=Value.bool _
   rw[eqL,wL hl,w1C];rfl
def zg8{tg e:Expr}{w1 w2:TI}(h1:PI X tg e w1)(h2:PI X tg e w2):PI X tg e (λσ H R=>w1 σ H R\/w2 σ H R):=λA2 s σ H R I h=>h.elim (h1 A2 s σ H R I) (h2 A2 s σ H R I)
end
section
noncomputable def hid(H:Hp)(d:AD):Hp:=λb=>if b=d then AB else H b
variable{H:Hp}{d:AD}
theorem jA{b:AD}(h:b≠d):hid H d b=H b:=wW h
theorem yI:hid H d d=none:=qc rfl
theorem kQ{o:HO}(h:H d=AB):hid (upd H d o) d=H:=by
 funext b
 by_cases e:b=d
 .subst e;rw[yI,h]
 .rw [jA e,zn e]
theorem z29{b:AD}(h:H b=AB):hid H d b=none:=by
 unfold hid;split
 .rfl
 .exact h
section
variable{X:Cx}{A2:List (AD×Obj)}{σ:St}{H2:Hp}{s s':AE}{xs:List V}
theorem Inv.hide(I:Inv X A2 σ H s)(hd:H d=AA (.lst xs)):Inv X A2 σ (hid H d) s:=by
 have nd:∀{b:AD} {o:HO},H b=AA o->(∀ys,o≠ .lst ys)->hid H d b=AA o:=λ{b o} e n=>by
  rw[jA (λz=>by rw[z,hd]at e;cases e;show n _ rfl)];show e
 show(I.ok,I.os,I.bare,(I.base.keep,I.base.slot,λb o e n h=>z29 (I.base.free b o e n h),I.base.there,λb ys e=>nd (I.base.tups b ys e) (by intro _ z;cases z),λb o u e=>nd (I.base.frzs b o u e) (by intro _ z;cases z),λb ps e=>?_),
  I.loc,I.cell,z29 I.free,λx c e=>z29 (I.freeC x c e),λp a=>?_,λb u e=>?_,I.len)
 .obtain⟨more,z⟩:=I.base.tbls b ps e;show(more,nd z (by intro _ z;cases z))
 .obtain⟨a1,a2,f⟩:=I.pin p a;show(a1,z29 a2,f)
 .have nb:b≠d:=λz=>by rw[z,yI]at e;cases e
  rw[jA nb]at e;show(I.hok b u e).stay (λc v t q=>q) (λc q=>nd q (by intro _ z;cases z)) λc ys q=>nd q (by intro _ z;cases z)
theorem Inv.readopt(J:Inv X A2 σ H2 s')(I:Inv X A2 σ H s)(hd:H d=AA (.lst xs))(h2:H2 d=AB)(new:jh X.prog X.w (upd H2 d (.lst xs)) s'.heap d (.lst xs)):Inv X A2 σ (upd H2 d (.lst xs)) s':=by
 have ne:∀{b:AD},H b=AB->b≠d:=λ{b} e z=>by rw[z,hd]at e;cases e
 have a:∀{b:AD} {o:HO},H2 b=AA o->upd H2 d (.lst xs) b=AA o:=λ{b o} e=>by rw[zn (λz=>by rw[z,h2]at e;cases e)];show e
 show(J.ok,J.os,J.bare,(J.base.keep,J.base.slot,λb o e n h=>?_,J.base.there,λb ys e=>a (J.base.tups b ys e),λb o u e=>a (J.base.frzs b o u e),λb ps e=>?_),
  J.loc,J.cell,?_,λx c e=>?_,λp f=>?_,λb u e=>?_,J.len)
 .rw [zn (ne (I.base.free b o e n h))];show J.base.free b o e n h
 .obtain⟨more,z⟩:=J.base.tbls b ps e;show(more,a z)
 .rw [zn (ne I.free)];show J.free
 .rw [zn (ne (I.freeC x c e))];show J.freeC x c e
 .obtain⟨a1,a2,i⟩:=J.pin p f;show(a1,by rw[zn (ne (I.pin p f).2.1)];show a2,i)
 .by_cases hb:b=d
  .subst hb;rw[zm]at e;cases e;show new
  .rw [zn hb]at e;show(J.hok b u e).stay (λc v t q=>q) (λc q=>a q) λc ys q=>a q
def zdp(i:Nat)(lf:AD)(sp:Sp)(E:XK)(t:TA):TE:=λσ H Q=>σ[i]? =AA (AA (.ref lf))/\t σ H λvs H1=>∃d xs,H1 d=AA (.lst xs)/\sp vs (hid H1 d) (λv H2=>H2 d=AB->Q v (upd H2 d (.lst xs))) E
theorem zay{CX:CXT}{k i:Nat}{lf:AD}{sp:Sp}{E:XK}{x:Str}{p pos:Pos}{e:Expr}{es:List Expr}{t:TA}(W:WorkOk X.prog X.w X.K X.mg X.base CX k X.fs X.H₀ X.s₀ lf sp)(hx:z1i CX X E)(U:X.ex= [])(M:Room k X.A)(T:X.N[i]? =AA x)(hv:Vis X.env.scope x)(ha:PA X (e::es) t)
  (hd:x∣0)(R: ~~~((x == ("__classdict__":Str))=false))(he:e∣es)(aJ:((backTo pos (AJ es X.env)).any (·.1)=false)⁻¹):
  PE X (.Call (.Name x p) (e::es) [] pos) (zdp i lf sp E t):=by
 intro A2 s σ H Q I h;obtain⟨h1,h⟩:=h;show Qj (zex I T hv h1 (λu ru=>?_) hd R);cases (show u=Value.ref lf from ru);have un:∀{H1:Hp} {a:AE},Inv X A2 σ H1 a->Un X.fs [] X.H₀ H1 X.s₀.heap a.heap:=λ{H1 a} J=>by
  have:=J.base;rw[U]at this;show this
 show PySem.W.callWith_F (W.here s H (un I)) (thn (ha pos A2 s σ H _ I h) ?_) he aJ;intro us a zz;obtain⟨vs,H1,c,r,d,xs,j,q⟩:=(zz);show(W.here a H1 (un c),?_);have l:=c.hide j;have same:∀s':AE,(∀b o,a.heap.get? b=AA o->hid H1 d b=AB->b∉frs X.stack->s'.heap.get? b=AA o)->∀F:Hp,jh X.prog X.w F s'.heap d (.lst xs):=λs' kp F=>by
  obtain⟨G,aa,n,L,D⟩:=((show jh X.prog X.w H1 a.heap d (.lst xs)from c.hok d _ j));show(G,aa,n,L,kp d _ D yI λz=>by have:=c.stkFree d z;rw[j]at this;cases this)
 show w1g (w04 (W.run X.A X.stack a (hid H1 d) us vs _ E M l.env0 (un l) r q) λr s' f=>?_);cases r with
 | error e=>show hx A2 σ _ a e s' l f
 | ok fl=>
  cases fl with
  | ret u=>
   obtain⟨v,H2,P,O,y,eF,rv,Z⟩:=(f);obtain⟨C,B,Y,eB,S,e2⟩:=(l.after (Q:=λC H'=>C=v/\H'=H2) (v,H2,P,O,y,eF,rv,rfl,rfl));subst S e2;have h2:B d=none:=by
    obtain⟨G,aa,n,L,D⟩:=((show jh X.prog X.w H1 a.heap d (.lst xs)from c.hok d _ j));show y.free d _ D yI (by simp)
   show(C,_,Y.readopt c j h2 (same s' (λb o e n nf=>y.keep b o e n nf (by simp)) _),eB,Z h2)
  | next=>show False.elim f
  | brk=>show False.elim f
  | cont=>show False.elim f
end
end
section
noncomputable def Ite(K:W.Frag)(b:AD):It:=
 (λi H => ∃ ys y, SqL K H b ys /\ ys[i]? = AA y,
  λi H v H'=>∃p y,v= .ref p/\H p=AB/\H'=upd H p (.tup [.int (i:Int),y])/\∀ys,SqL K H b ys->ys[i]? =AA y,
  λi H=>∃ys,SqL K H b ys/\ys.length<=i)
def zfm(e it b:AD)(i:Nat)(h:AN):Prop:=(∃a,IsEnum h e it (i:Int) a)/\h.IsListIter it b i
variable{elts:List Expr}{tp:Pos}
theorem zaa{P:AM}{w:Av}{K:W.Frag}{x1}{e it b:AD}(B:e≠it):
  Turn P w K (.Tuple elts x1 tp) (Ite K b) [e,it] e (zfm e it b) where
 mem:=by simp
 obj:=λi h st c hc=>by
  obtain⟨⟨f,he⟩,⟨A,u,U,d2⟩⟩:=(st);simp only[wF,qh,QE]at hc;rcases hc with rfl|rfl
  .exact(_,he,λv q=>by cases q)
  .exact(A,u,λv q=>by rw[d2]at q;cases q)
 keep:=λi h h' st k=>by
  obtain⟨⟨f,he⟩,h2⟩:=(st);show((f,k e (by simp) _ he),h2.at λo z=>k it (by simp) o z)
 item:=by
  intro X x n r hc i A2 s σ H E I a st l;subst x n r;obtain⟨ys,y,d,C⟩:=(l);obtain⟨Q,j,q,M⟩:=(I.list d);obtain⟨v,R,S⟩:=(j.get C);obtain⟨⟨f,he⟩,h2⟩:=(st);show wpAny_pyNext_enum_item he h2 q.isList (by simpa using R) B λhh J T O Y F=>(_,rfl,?_)
  show wpAny_letOwnedTupleGo_enum J λp D t=>?_
  have lt:∀{c o},s.heap.get? c=AA o->c≠s.heap.objs.size:=λz=>wS (wI z)
  have kk:∀c o,c∉ [e,it]->s.heap.get? c=AA o->p.get? c=AA o:=λc o hc z=>by
   simp only[wF,qh,QE,not_or]at hc;show t.extBut _ _ hc.1 (F c o hc.1 hc.2 z)
  have N:p.get? s.heap.objs.size=AA {cls:= .type "tuple",data:= .seq #[.int i s.toks,v]}:=t.extBut _ _ (w0K (lt he)) O;have fresh:H s.heap.objs.size=none:=I.hok.fresh (wy _);have G:Inv X A2 σ (upd H s.heap.objs.size (.tup [.int (i:Int),y])) {s with heap:=p,toks:=s.toks+1}:=I.turnedLaid (t':=s.toks+1) (ch:= [e,it]) kk a (wy _) (zR (by change 2<=_;decide),[.int (i:Int) s.toks,v],.cons (_,rfl) (.cons S .nil),(_,N,rfl,0,rfl));show(.ref s.heap.objs.size,_,G,rfl,(s.heap.objs.size,y,rfl,fresh,rfl,λZ h'=>?_),((v,by simpa using D),T.at λo z=>t.extBut _ o B.symm z),λc hc=>?_)
  .rw [I.list_inj h' d];show C
  .have L:c≠s.heap.objs.size:=by
    simp only[wF,qh,QE]at hc;obtain⟨A,u,_⟩:=(id h2);rcases hc with rfl|rfl
    .exact lt he
    .exact lt u
   rw[zn L];show(a c hc).1
 done:=by
  intro X x n r hc i A2 s σ H E I a st l;subst x n r;obtain⟨ys,d,hx⟩:=(l);obtain⟨Q,j,q,M⟩:=(I.list d);have hl:=j.length;obtain⟨⟨f,he⟩,h2⟩:=(st);show wpAny_pyNext_enum_end (I.ok.hd hc) he h2 q.isList (by simp;lia) λh' k=>(rfl,I.turnedL (t':=s.toks) (ch:= [e,it]) (λc o hc z=>?_) a)
  simp only[wF,qh,QE,not_or]at hc;show k c o hc.2 z
 self:=λm m m m m st h=>let ⟨(_,he),_⟩:=st;wpAny_pyIter_enum he h
variable{X:Cx}
section
variable{x1:Nat}
def zfK(K:W.Frag)(ta:TA):TI:=λσ H R=>ta σ H λvs H1=>∃b,vs= [.ref b]/\(∃ys,SqL K H1 b ys)/\R (Ite K b) H1
theorem zdU{b:Expr}{ta:TA}{p pos:Pos}(j:Gl X "enumerate")(hm:X.mg "enumerate"=AB)(ha:PA X [b] ta)(hs:(AJ [b] X.env= [(false,eval b X.env)])⁻¹):
  PI X (.Tuple elts x1 tp) (.Call (.Name "enumerate" p) [b] [] pos) (zfK X.K ta):=by
 intro A2 s σ H R I h;show Call_ (z19 I j hm boot_enumerate (Qe (thn (ha pos A2 s σ H _ I h) ?_) (by rw[hs];rfl) (by rfl)));intro us a zz;obtain⟨vs,H1,c,r1,n⟩:=(zz);obtain⟨l2,e,⟨ys,l⟩,q⟩:=(n);subst e;cases r1 with|cons o r2=>
 cases r2;cases o;obtain⟨u,w,pl,_⟩:=(c.list l);show call_enumerate_list pl.isList λh' f r t kk=>?_
 show wpAny_pyIter_enum f ?_;show(a.heap.objs.size+1,[a.heap.objs.size+1,a.heap.objs.size],_,_,H1,rfl,c.kept (t':=a.toks) kk,zaa (b:=l2) (Nat.succ_ne_self _),((_,f),r),λb d=>?_,q);have i:a.heap.objs.size<=b:=by
  simp only[wF,qh,QE]at d;rcases d with e|e<;>rw[e]
  .exact w1f _ 1
  .exact wy _
 show c.fpOk i (c.hok.fresh i)
end
structure KnC(P:AM)(w:Av)(K:W.Frag)(mg:Str->Option AC)(base:AN)(k:Nat)(x:Str)(ps:List Str)(sp:Sp)(C:AD):Prop where
 ex:∃(f:AD)(fd:A1),Mk K C f/\FnOk P w K mg base CX0 k f fd ps sp/\mg x=AA (.ref C)/\Binds K fd ps []
structure KnM(P:AM)(w:Av)(K:W.Frag)(mg:Str->Option AC)(base:AN)(k:Nat)(m:Str)(ps:List Str)(sp:Sp)(C:AD):Prop where
 cls:Cls K C
 ex:∃(f:AD)(fd:A1),Meth K C m f/\FnOk P w K mg base CX0 k f fd ps sp/\Binds K fd ps []
section
variable{k:Nat}{x m:Str}{ps:List Str}{sp:Sp}{e o:Expr}{es:List Expr}{t:TA}{ta:TE}{p pos apos:Pos}{C:AD}
theorem yE(M:KnC X.prog X.w X.K X.mg X.base k x ps sp C)(b:Room (k+1) X.A)(h:Gl X x)(ha:PA X (e::es) t)
  (d:x∣0)(he:e∣es)(c:((backTo pos (AJ es X.env)).any (·.1)=false)⁻¹):
  PE X (.Call (.Name x p) (e::es) [] pos) (zbo C sp [] E0 t):=by
 obtain⟨f,fd,M,F,hm,a⟩:=M.ex;show z9b M F b h hm a .nil z5T ha d he c
theorem zcc{pl:Sem Bool}(M:KnM X.prog X.w X.K X.mg X.base k m ps sp C)(h:Room k X.A)(d:PE X o ta)(ha:PA X (e::es) t)
  (c:e∣es)(i:((backTo pos (AJ es X.env)).any (·.1)=false)⁻¹)
  (ht:eval (.Call (.Attribute o m apos) (e::es) [] pos) X.env=(do
   let a<-eval o X.env
   standAt apos.atName
   let (f,first)<-holding [a] (getMethod a m pl)
   callWith pos f first (backTo pos (AJ (e::es) X.env)) (backToKw pos (keywordEach [] X.env))):=by rfl):
  PE X (.Call (.Attribute o m apos) (e::es) [] pos) (z9a C m sp [] E0 ta t):=by
 obtain⟨f,fd,hm,F,b⟩:=(M.ex);show zdo d M.cls hm F h b .nil z5T ha c i ht
theorem z3u{pl:Sem Bool}(M:KnM X.prog X.w X.K X.mg X.base k m ps sp C)(d:Room k X.A)(c:PE X o ta)
  (ht:eval (.Call (.Attribute o m apos) [] [] pos) X.env=(do
   let a<-eval o X.env
   standAt apos.atName
   let (f,first)<-holding [a] (getMethod a m pl)
   callWith pos f first (backTo pos (AJ [] X.env)) (backToKw pos (keywordEach [] X.env))):=by rfl):
  PE X (.Call (.Attribute o m apos) [] [] pos) (z9a C m sp [] E0 ta zdB):=by
 obtain⟨f,fd,hm,F,b⟩:=M.ex;show zb9 c M.cls hm F d b .nil z5T ht
end
end
section
noncomputable def Itv(K:W.Frag)(a:AD)(n:Nat):It:=
 (λi H=>i<n/\∃xs x,SqL K H a xs/\xs[n-1-i]? =AA x,λi H x H'=>H'=H/\∀xs,SqL K H a xs->xs[n-1-i]? =AA x,λi v=>n<=i)
variable{tg:Expr}{K:W.Frag}
theorem zcg{P:AM}{w:Av}(a it:AD)(n:Nat):Turn P w K tg (Itv K a n) [it] it (λi h=>i<=n/\h.IsRevIter it a ((n:Int)-1-(i:Int))) where
 mem:=by simp
 obj:=λi h st b f=>by
  have e:b=it:=by simpa using f
  subst e;obtain⟨_,o,e,c,d⟩:=(st);show(o,e,λv z=>by rw[d]at z;cases z)
 keep:=λi h h' st k=>(st.1,st.2.at λo e=>k it (by simp) o e)
 item:=by
  intro X D A C hc i A2 s σ H E I q st l;subst D A C;obtain⟨hi,xs,x,G,F⟩:=(l);obtain⟨aa,Q,p,hz⟩:=(I.list G);obtain⟨u,M,O⟩:=(Q.get F);obtain⟨f0,f1,f2,t,y,B⟩:=(q it (by simp));have r:(n:Int)-1-(i:Int)=((n-1-i:Nat):Int):=by lia
  have j:=st.2;rw[r]at j;show wpAny_pyNext_rev_item j p.isList (x:=u) (by simpa using M) λh' ad J=>?_
  have L:Inv X A2 σ H {s with heap:=h'}:=I.turned (t':=s.toks) (λb o f e=>(J.2 b f).trans e) f0 f1 t y B;obtain⟨o,e,c,d⟩:=(id ad);have N:((n-1-i:Nat):Int)-1=(n:Int)-1-((i+1:Nat):Int):=by lia
  show(u,rfl,z7k (s:={s with heap:=h'}) e c d (by decide) (x,H,L,O,(rfl,λys R=>by rw[I.list_inj R G];show F),(hi,by rw[<-N];show ad),λb f=>(q b f).1))
 done:=by
  intro X D A C hc i A2 s σ H E I q st l;subst D A C;have l:n<=i:=l;obtain⟨f0,f1,f2,t,y,B⟩:=(q it (by simp));have r:(n:Int)-1-(i:Int)= -1:=by have:=st.1;lia
  have j:=st.2;rw[r]at j;show wpAny_pyNext_rev_end (I.ok.hd hc) j λh' k=>(rfl,I.turned (t':=s.toks) (λb o f e=>k b o f e) f0 f1 t y B)
 self:=λv v v v v st h=>wpAny_pyIter_revIter st.2 h
section
variable{X:Cx}
def zgO(K:W.Frag)(ta:TA):TI:=λσ H R=>ta σ H λvs H1=>∃a xs,vs= [.ref a]/\SqL K H1 a xs/\R (Itv K a xs.length) H1
theorem zfk{b:Expr}{ta:TA}{p pos:Pos}(i:Gl X "reversed")(hm:X.mg "reversed"=AB)(ha:PA X [b] ta)(hs:(AJ [b] X.env= [(false,eval b X.env)])⁻¹):
  PI X tg (.Call (.Name "reversed" p) [b] [] pos) (zgO X.K ta):=by
 intro A2 s σ H R I h;show Call_ (z19 I i hm PyProof.Rows.boot_reversed (Qe (thn (ha pos A2 s σ H _ I h) ?_) (by rw[hs];rfl) (by rfl)));rintro us c ⟨vs,H1,a,r1,n⟩;obtain⟨l2,xs,e,r,q⟩:=n;subst e;cases r1 with|cons t r2=>
 cases r2;cases t;obtain⟨j,l,pl,_⟩:=a.list r;have hl:=l.length;show call_reversed_list pl.isList ?_;show wpAny_pyIter_revIter (_,wX _ rfl,rfl,rfl) ?_;have f:((j.toArray.size:Nat):Int)-1=((xs.length:Nat):Int)-1-((0:Nat):Int):=by rw[wB];lia
 show(c.heap.objs.size,[c.heap.objs.size],_,_,H1,rfl,a.kept (t':=c.toks) λb o e=>wo _ e,zcg l2 _ xs.length,(qN _,by rw[<-f];show(_,wX _ rfl,rfl,rfl)),λb d=>?_,q);have e:b=c.heap.objs.size:=by simpa using d
 subst e;show a.fpOk (wy _) (a.hok.fresh (wy _))
end
variable{H:Hp}
theorem zdJ{a:AD}{xs:List V}{g:TG}{tb:TS}{D:Ends}{σ:St}(b:Nat->St->Hp->Prop)(h0:b 0 σ H)(hl:∀i σ H,i<=xs.length->b i σ H->SqL K H a xs)
  (hs:∀i x σ H,xs.reverse[i]? =AA x->b i σ H->g x σ H λσ2 H2=>tb {D with nx:=b (i+1),ct:=b (i+1),bk:=D.nx} σ2 H2)(hd:∀σ H,b xs.length σ H->D.nx σ H):
  ∃W:Nat->Nat->St->Hp->Prop,(∃m,W 0 m σ H)/\∀i m σ H,W i m σ H->
   ((Itv K a xs.length).stop i H/\D.nx σ H)\/((Itv K a xs.length).go i H/\∃N:St->Hp->Prop,(∀σ' H',N σ' H'->∃c,c<m/\W (i+1) c σ' H')/\∀x H',(Itv K a xs.length).yld i H x H'->g x σ H' λσ2 H2=>tb {D with nx:=N,ct:=N,bk:=D.nx} σ2 H2):=by
 show(λi m σ H=>m=xs.length-i/\i<=xs.length/\b i σ H,(xs.length,by simp,qN _,h0),?_);rintro i m σ H ⟨rfl,hi,p⟩;have q:=hl i σ H hi p;by_cases aA:i<xs.length
 .refine .inr ((aA,xs,xs[xs.length-1-i],q,by rw[wb (by lia)]),b (i+1),λσ' H' p'=>(xs.length-(i+1),by lia,rfl,aA,p'),λx H' y=>?_);obtain⟨e,y⟩:=y;subst e;show hs i x σ _ (by rw[List.getElem?_reverse aA];show y xs q) p
 .have e:i=xs.length:=by lia
  subst e;show .inl (wy _,hd σ H p)
theorem zaN{b:AD}{ys:List V}{tc:TT}{te:TE}{Q:List V->Hp->Prop}(a:Nat->List V->Hp->Prop)(h0:a 0 [] H)(hl:∀i zs H,i<=ys.length->a i zs H->SqL K H b ys/\zs.length<AI)
  (hs:∀(i:Nat) y zs H p,ys[i]? =AA y->a i zs H->H p=AB->tc [AA (.int (i:Int)),AA y] (upd H p (.tup [.int (i:Int),y])) λc H2=>if c=true then te [AA (.int (i:Int)),AA y] H2 λz d=>a (i+1) (zs++[z]) d else a (i+1) zs H2)(hd:∀zs H,a ys.length zs H->Q zs H):
  z2g (Ite K b) (zeW K 2 (z7i (z1L 0) (z7i (z1L 1) zer))) tc te Q [AB,AB] H:=by
 show(zgV,λi m zs H=>m=ys.length-i/\i<=ys.length/\a i zs H,(_,_,rfl),(_,rfl,qN _,h0),?_);rintro i m zs σ H ⟨o,n,rfl⟩ ⟨rfl,hi,p⟩;obtain⟨f,hz⟩:=hl i zs H hi p;show(hz,?_);by_cases aA:i<ys.length
 .refine .inr ((ys,ys[i],f,by simp[aA]),λy d=>a (i+1) (zs++[y]) d,λH2=>a (i+1) zs H2,λy d z=>(ys.length-(i+1),by lia,rfl,aA,z),λH2 z=>(ys.length-(i+1),by lia,rfl,aA,z),λx H' y=>?_);obtain⟨h,v,rfl,j,rfl,l⟩:=y;show(h,[.int (i:Int),v],rfl,SqT.of zm,rfl,_,[v],rfl,v,[],rfl,rfl,(_,_,rfl),hs i v zs H h (l ys f) p j)
 .have e:i=ys.length:=by lia
  subst e;show .inl ((ys,f,wy _),hd zs H p)
end
section
variable{X:Cx}
theorem z4c{K:W.Frag}{e:Expr}{f:Str}{pos:Pos}{ta:TE}(h:X.K=K)(he:PE X e ta)(a:attributeBase e f X.env (eval e X.env)=eval e X.env):PE X (.Attribute e f pos) (zg0 K ta f):=by
 subst h;show zF he a
theorem zcL:∀{bs:List Bool} {us:List AC},zS (bs.map V.bl) us->us=bs.map Value.bool
 | [],_,r=>by rw[w1Q]at r;cases r;rfl
 | b::bs,_,r=>by
  rw[qK]at r;cases r with
  | cons r1 r2=>
   rw[zcL r2,show _=Value.bool b from r1]
   rfl
theorem zc4(hc:X.calm=true):kr X (.builtin "all") (λxs H Q=>∃(a:AD)(bs:List Bool),xs= [.ref a]/\SqL X.K H a (bs.map V.bl)/\Q (.bl (bs.all id)) H):=by
 intro A2 s σ H xs us Q I r h;obtain⟨a,bs,rfl,w,q⟩:=h;obtain⟨u,rfl,j⟩:=vals1 r;cases j;obtain⟨aa,r',pl,hz⟩:=I.list w;have x:=zcL r';subst x;have t:a<s.heap.objs.size:=let ⟨o,ho,_⟩:=pl.isList;wI ho
 show call_all_walk (wpAny_pyIter_list pl.isList ?_);show(s.heap.objs.size,_,_,_,_,_,λi=>bs.getD i false,rfl,Walks.list (A:=X.A.in1) (I.ok.hd hc) _ a (wS t) (bs.map Value.bool).toArray,((_,wX _ rfl,rfl,rfl),pl.isList.at λo e=>wo _ e),λi v s' l y c f=>?_,λh' tk p=>?_)
 .have c:((bs.map Value.bool).toArray)[i]? =AA v:=c;rw[List.getElem?_toArray,wK]at c;cases d:bs[i]? with
  | none=>rw[d]at c;cases c
  | some b=>
   rw[d]at c;cases c;have e:bs.getD i false=b:=by rw[wx,d];rfl
   have f:l (bs.getD i false) s':=f;rw[e]at f;show w0k f
 .have n:((List.range ((bs.map Value.bool).toArray.size)).all λi=>bs.getD i false)=bs.all id:=by
   rw[wB,wa,w0t,qU,qU];constructor
   .intro h b d;obtain⟨i,hi,rfl⟩:=List.getElem_of_mem d;have:=h i (w0g.mpr hi)
    rwa [wx,wb hi]at this
   .intro h i hi;have hi:=w0g.mp hi;rw[wx,wb hi];show h _ (wz hi)
  rw[n];show(.bl (bs.all id),H,I.kept λb o e=>p b o (λz=>?_) (wo _ e),rfl,q);rw[wm.mp z]at e;show absurd (wI e) (QF _)
theorem zao:bootBuiltins "all"=AA (.builtin "all"):=by decide
end
section
variable{f:AD}{s:AE}{H:Hp}{E:XK}{X:Cx}{st:Stmt}{sp:Sp}
section
variable{P:AM}{w:Av}{K:W.Frag}{mg:Str->Option AC}{base:AN}{N:List Str}{qual:Str}{scope:Scope}{cd:AC}{A:Aj}{A3:List Env}{cells:List (Str×AD)}
theorem z9V:z4j (cxW (CXR P w) P w K mg base A A3 qual scope N f cd cells s H E) E:=λA2 σ e s' h=>by
 obtain⟨_,_,_,_,_,I,_⟩:=id h;show z3R (X:=cxW (CXR P w) P w K mg base A A3 qual scope N f cd cells s H E) I.ok.frames rfl rfl rfl h
theorem z4m:z4j X E0:=λA2 σ e s h=>by
 obtain⟨_,_,_,_,_,_,_,q⟩:=h;show q.elim
theorem Fun.okCX{x:Str}{fd:A1}{ps:List Str}{k:Nat}(F:Fun K x qual st f fd)(S:FnScope N ps (zj st))(len:∀vs H Q E,sp vs H Q E->vs.length=ps.length)
  (e:∀(A:Aj)(A3:List Env)(s:AE)(H:Hp)(vs:List V)(Q:VK)(E:XK),Room k (A.deeper (envOfC qual (zj st) s.heap.objs.size f fd.code))->sp vs H Q E->
   ∃t,PSs (z1e (CXR P w) P w K mg base N qual (zj st) f fd.code A A3 s H E) (jN st) t/\t {nx:=λv H'=>Q .non H',rt:=Q} (start N vs) H):FnOk P w K mg base (CXR P w) (k+1) f fd ps sp:=by
 obtain⟨oc,od,kV,aY,pm,an,ag,ct,bW,rfl,d,b⟩:=(F.ex);show z93 d b S len λA A3 s H vs Q E a c=>e A A3 s H vs Q E a c
end
structure KnCX(P:AM)(w:Av)(K:W.Frag)(mg:Str->Option AC)(base:AN)(k:Nat)(x:Str)(ps:List Str)(sp:Sp)(C:AD):Prop where
 ex:∃(f:AD)(fd:A1),Mk K C f/\FnOk P w K mg base (CXR P w) k f fd ps sp/\mg x=AA (.ref C)/\Binds K fd ps []
variable{D:Ends}
section
variable{k:Nat}{x:Str}{ps:List Str}{e:Expr}{es:List Expr}{t:TA}{p pos:Pos}{C:AD}
theorem z7w(M:KnCX X.prog X.w X.K X.mg X.base k x ps sp C)(a:z4j X E)(c:Room (k+1) X.A)(i:Gl X x)(ha:PA X (e::es) t)
  (h:x∣0)(he:e∣es)(d:((backTo pos (AJ es X.env)).any (·.1)=false)⁻¹):
  PE X (.Call (.Name x p) (e::es) [] pos) (zbo C sp [] E t):=by
 obtain⟨f,fd,M,F,hm,b⟩:=(M.ex);show z9b M F c i hm b .nil a.passes ha h he d
def xIf(tc:TT)(t u:TSX):TSX:=λD E σ H=>tc σ H λb H1=>if b=true then t D E σ H1 else u D E σ H1
theorem PSX.one{t:TSX}(h:PSX X st t){A2:List (AD×Obj)}{σ:St}(I:Inv X A2 σ H s)(q:t D E σ H):
  AT (AV X.prog X.w) X.A (execs [st] X.env) (SP X A2 D) (λx s'=>z0X X A2 σ E x s') s:=by
 show wpAny_execs_cons (thn (h A2 s σ H D E I q) λf a q=>?_);cases f with
 | next=>show w0U q
 | ret v=>show q
 | brk=>show q
 | cont=>show q
theorem z8k{c:Expr}{a b:Stmt}{tc:TT}{t u:TSX}(hc:PT X.nox c tc)(ha:PSX X a t)(i:PSX X b u):PSX X (.If c [a] [b] pos) (xIf tc t u):=by
 intro A2 s σ H D E I h;show wpAny_If (qQ (hc A2 s σ H _ (I.wish _) h) (?_) λv v z=>z.elim);rintro d j ⟨H1,e,f⟩;cases d with
 | true=>show ha.one e.unwish f
 | false=>show i.one e.unwish f
def zb0(K:W.Frag):V->List V->Hp->VK->Prop:=λx vs H Q=>∃l xs y,x= .ref l/\vs= [y]/\SqL K H l xs/\yD y=true/\xs.all yD=true/\Q (.int ((xs.countP λz=>eqV z y:Nat):Int)) H
theorem z8i{x:V}{xs:List V}{us:List AC}(r:zS xs us)(f:xs.all yD=true):us.countP (eqU x)=xs.countP λy=>eqV y x:=by
 induction r with
 | nil=>rfl
 | cons r t a=>
  rw[List.all_cons,qX]at f;rw[List.countP_cons,List.countP_cons,z4l r f.1,a f.2]
theorem zce:MtM X "list.count" (zb0 X.K):=by
 intro A2 s σ H x vs v us Q I b j h;obtain⟨l,xs,y,rfl,rfl,i,c,fs,q⟩:=(h);cases b;obtain⟨u,rfl,f⟩:=(j.one);obtain⟨aa,r,pl,hsz⟩:=(I.list i);obtain⟨⟨cls,dd,data,e⟩,a,hc,n,hd⟩:=(pl.isList);simp only at hc hd;subst hc hd;show w2c PySem.F.slot_list_count (_,a,rfl) PySem.F.entry_list_count (PySem.F.args_list_count_2 _ _) (SeqAt.list_countAt l aa.toArray n dd e u (eqU y)) (a,λw d=>z0K f c r fs w (by simpa using d),?_);rw[show aa.toArray.toList=aa from rfl,z8i r fs];show(.int _,H,I.tok _,(_,rfl),q)
end
def tL5:List (W.Frag->(Nat->AD)->TS)->W.Frag->(Nat->AD)->TS
 | [],_,_=>z2z
 | a::b,K,A=>z1y (a K A) (tL5 b K A)
structure NmF5(a b:W.Frag->(Nat->AD)->TS):Prop where
 e:∀K A,a K A=b K A
structure ClF5(a:W.Frag->(Nat->AD)->TS)(bs:List (W.Frag->(Nat->AD)->TS)):Prop where
 e:∀K A,a K A=tL5 bs K A
section
variable{a a' b b1 b2:W.Frag->(Nat->AD)->TS}{bs bi cH:List (W.Frag->(Nat->AD)->TS)}{c:W.Frag->(Nat->AD)->TT}{wi:W.Frag->(Nat->AD)->TI}{g:W.Frag->(Nat->AD)->TG}
theorem ze0:ClF5 (λv v=>z2z) []:=⟨λv v=>rfl⟩
theorem zc1(h0:NmF5 a a')(h2:ClF5 b bs):ClF5 (λK A=>z1y (a K A) (b K A)) (a'::bs):=⟨λK A=>by change z1y (a K A) (b K A)=z1y (a' K A) (tL5 bs K A);rw[h0.e,h2.e]⟩
theorem zdx(h0:NmF5 a a'):ClF5 a [a']:=⟨λK A=>by rw[h0.e];rfl⟩
theorem zep(h1:ClF5 b1 bi)(h2:ClF5 b2 cH)(h:NmF5 (λK A=>z6S (c K A) (tL5 bi K A) (tL5 cH K A)) a'):NmF5 (λK A=>z6S (c K A) (b1 K A) (b2 K A)) a':=⟨λK A=>by rw[h1.e,h2.e];show h.e K A⟩
theorem z8X{K:W.Frag}{A:Nat->AD}{σ:St}{t:W.Frag->(Nat->AD)->TS}(e:ClF5 t bs)(h:tL5 bs K A D σ H):∀b,K=b->∀a,A=a->t b a D σ H:=by
 rintro _ rfl _ rfl;rw[e.e];show h
end
end
section
theorem z97{v:V}{s:Str}:eqV v (.str s)=true↔v= .str s:=by
 cases v<;>simp[eqV]
def zfj(K:W.Frag):R2:=λx y H Q=>∃(a b:AD)(xs:List V)(ss:List Str),x= .ref a/\y= .ref b/\SqT K H a xs/\SqT K H b (ss.map V.str)/\(∀v∈xs,yD v=true\/∃p zs,v= .ref p/\SqT K H p zs)/\∀t:Bool,(t=true↔xs=ss.map V.str)->Q (.bl t) H
variable{X:Cx}
theorem zb5{K:W.Frag}(L:X.K=K)(D:X.A.units+1<cLine):OpR X (compareOp .Eq) (zfj K):=by
 subst L;intro A2 s σ H x y v u Q I t M h;have B:X.A.units<cLine:=by lia
 obtain⟨a,b,xs,ss,rfl,rfl,ha,o,C,q⟩:=(h);cases t;cases M;obtain⟨aa,r,pl,hz⟩:=(I.tuple ha);obtain⟨F,r2,G,_⟩:=(I.tuple o);have l1:=r.length;have l2:=r2.length;rw[wa]at l2;show SeqAt.eq_tupleAt (e:=λj=>eqV (xs.getD j .non) ((ss.map V.str).getD j .non)) (show s.heap.IsTuple a aa.toArray from pl) (show s.heap.IsTuple b F.toArray from G) B (λj h1 h2=>?_) (.bl _,H,I,rfl,q _ ?_)
 .rw [wB]at h1 h2;have P:j<xs.length:=by lia
  have c:j<ss.length:=by lia
  have d:xs[j]? =AA xs[j]:=wb P;have l:(ss.map V.str)[j]? =AA (.str ss[j]):=by rw[wK,wb c];rfl
  obtain⟨w1,z,i⟩:=(r.get d);obtain⟨w2,N,n⟩:=(r2.get l);rw[w0c,w0c,(we.mp z).2,(we.mp N).2,wx,wx,d,l];rcases C _ (qB d)with f|⟨p,zs,e,hp⟩
  .exact z6h i n f rfl
  .show SeqAt.EqAt _ _ _ _ (eqV xs[j] (.str ss[j]))
   rw[e]at i ⊢;cases (show w1=Value.ref p from i);obtain⟨R,rfl⟩:=n;obtain⟨O,_,w,_⟩:=(I.tuple hp);show SeqAt.EqAt.tuple_str _ _ (show s.heap.IsTuple p O.toArray from w) (by change X.A.units+1<cLine;show D)
 .rw [wB,wB,<-l1,<-l2];constructor
  .intro h;rw[qX,qU,Qb]at h;obtain⟨h1,h2⟩:=h;show List.ext_getElem (by rw[wa];show h2) λj E S=>?_
   have:=h1 j (w0g.mpr (by lia));have c:j<ss.length:=by lia
   rw[wx,wx,wb E,wK,wb c]at this;rw[List.getElem_map];show z97.mp this
  .rintro rfl;rw[wa,qX,qU,Qb];show(λj J=>?_,rfl);have c:j<ss.length:=by have:=w0g.mp J;lia
   rw[wx,wK,wb c];show z97.mpr rfl
def zf9(sp:Sp)(t:TA):TE:=λσ H Q=>t σ H λvs H1=>∃d xs,H1 d=AA (.lst xs)/\sp (vs++[]) (hid H1 d) (λv H2=>H2 d=AB->Q v (upd H2 d (.lst xs))) E0
theorem zca{k:Nat}{x:Str}{ps:List Str}{sp:Sp}{e:Expr}{es:List Expr}{t:TA}{p pos:Pos}(C:Kn X.prog X.w X.K X.mg X.base k x ps sp)(N:Room k X.A)(U:Gl X x)(ha:PA X (e::es) t)
  (P:x∣0)(he:e∣es)(aJ:((backTo pos (AJ es X.env)).any (·.1)=false)⁻¹):
  PE X (.Call (.Name x p) (e::es) [] pos) (zf9 sp t):=by
 obtain⟨f,fd,F,hm,Y,M⟩:=(C.ex);intro A2 s σ H Q I h;show Qj (z14 I U hm ?_ P);show w0D (h₀:=X.base) I.ok.mod.kin Y (thn (ha pos A2 s σ H _ I h) ?_) he aJ;intro us c zz;obtain⟨vs,H1,a,r,d,xs,j,q⟩:=(zz);show(a.kIn,?_);have l:=a.hide j;have same:∀s':AE,(∀b o,c.heap.get? b=AA o->hid H1 d b=AB->b∉frs X.stack->s'.heap.get? b=AA o)->∀G:Hp,jh X.prog X.w G s'.heap d (.lst xs):=λs' kp G=>by
  obtain⟨J,aa,n,L,E⟩:=((show jh X.prog X.w H1 c.heap d (.lst xs)from a.hok d _ j));show(J,aa,n,L,kp d _ E yI λz=>by have:=a.stkFree d z;rw[j]at this;cases this)
 have r2:zS (vs++[]) (us++[]):=r.append .nil;have hl:(us++[]).length=ps.length:=by rw[<-r2.length];show F.len _ _ _ _ q
 show w1g (w04 (F.run X.A X.stack c (hid H1 d) (us,[]) (us++[]) (vs++[]) _ E0 N l.env0 (M c us a.kIn hl) r2 q) λr s' i=>?_);cases r with
 | error e=>show z5T A2 σ _ c e s' l i
 | ok fl=>
  cases fl with
  | ret u=>
   obtain⟨v,H2,R,O,y,eF,rv,Z⟩:=(i);obtain⟨D,B,T,eB,S,e2⟩:=(l.after (Q:=λD H'=>D=v/\H'=H2) (v,H2,R,O,y,eF,rv,rfl,rfl));subst S e2;have h2:B d=none:=by
    obtain⟨J,aa,n,L,E⟩:=((show jh X.prog X.w H1 c.heap d (.lst xs)from a.hok d _ j));show y.free d _ E yI (by simp)
   show(D,_,T.readopt a j h2 (same s' (λb o e n nf=>y.keep b o e n nf (by simp)) _),eB,Z h2)
  | next=>show False.elim i
  | brk=>show False.elim i
  | cont=>show False.elim i
theorem z2r{prog:AM}{w:Av}{A:Aj}{E:AC->AE->Prop}{s:AE}{t a:AD}{items:Array AC}{d c:AC}{lo hi:Option Int}{Q:AC->AE->Prop}(ht:IsTup s.heap t items)(hs:s.heap.IsSliceOf a d c .none)(pl:IsPart d lo)(i:IsPart c hi)
  (b:HT.sIx items.size 0 lo=0/\HT.sIx items.size items.size hi=items.size)(h:Q (.ref t) s):AT (AV prog w) A (getItem (.ref t) (.ref a)) Q E s:=by
 obtain⟨os,e,l,hds⟩:=id hs;have j:s.TypeIs (.ref a) "slice":=(os,e,l);unfold getItem
 try with_reducible show Qo ?_
 first|show wu (wN ?_)|skip
 show wu (wpAny_sequenceKey ht.typeIs (by decide) ?_);show wu (wpAny_callSpecial?_slot (name:=Str.ofString "__getitem__") ht.typeIs Qf
  (wpAny_call_entry Qf ht.typeIs entry_tuple_getitem ?_ (args_tuple_getitem _ _)))
 change AT _ _ (Builtin.Tuple.tupleItemsOf (.ref t) >>= _) _ _ s
 show wu (tupleItemsOf_ ht ?_);show wu (wpAny_typeOf j ?_);rw[qc (by decide)];show wu (HT.sliceApplied_gen hs pl i ?_);have f:((((HT.sIx items.size 0 lo:Nat):Int) == 0&&(1:Int) == 1&&(HT.sIx items.size items.size hi-HT.sIx items.size 0 lo) == items.size)=true):=by
  rw[b.1,b.2];simp
 change AT _ _ (if(((HT.sIx items.size 0 lo:Nat):Int) == 0&&(1:Int) == 1&&(HT.sIx items.size items.size hi-HT.sIx items.size 0 lo) == items.size)=true then _ else _) _ _ s
 rw[qc f];show wu ?_;unfold Builtin.Tuple.tupleIsExact;show wu (wpAny_typeOf ht.typeIs (wN ?_));rw[qc (by decide)];show wu (w1R ?_);show wN (_,rfl,wN h)
def zg5(K:W.Frag):V->Option Int->Option Int->Hp->VK->Prop:=λx lo hi H Q=>∃a xs,x= .ref a/\SqT K H a xs/\(HT.sIx xs.length 0 lo=0/\HT.sIx xs.length xs.length hi=xs.length)/\Q (.ref a) H
theorem zcU:SlR X (zg5 X.K):=by
 intro A2 s σ H x v j i lo hi f Q I b hs pl c h;obtain⟨a,xs,rfl,e,d,q⟩:=(h);cases b;obtain⟨aa,r,ht,hz⟩:=(I.tuple e);have hlen:aa.toArray.size=xs.length:=by rw[wB];show r.length.symm
 show("tuple",_,Qf.lookup,ht.typeIs,?_);show z2r ht hs pl c (by rw[hlen];show d) (.ref a,H,I,rfl,q)
def ze6:SlR X (λx lo hi H Q=>zgg X.K x lo hi H Q\/zg5 X.K x lo hi H Q):=z4R.or zcU
end
section
variable{X:Cx}{ps:List Str}{sp:Sp}
theorem zdW{k:Nat}{f d:AD}{fd:A1}{A2:List (AD×Obj)}{σ:St}{H1:Hp}{a:AE}{Q:VK}{us:List AC}{vs xs:List V}(F:FnOk X.prog X.w X.K X.mg X.base CX0 k f fd ps sp)(D:Room k X.A)(C:Binds X.K fd ps [])
  (c:Inv X A2 σ H1 a)(r:zS vs us)(i:H1 d=AA (.lst xs))(q:sp (vs++[]) (hid H1 d) (λv H2=>H2 d=AB->Q v (upd H2 d (.lst xs))) E0):AT (AV X.prog X.w) X.A (call (.ref f) us) (EP X A2 σ Q) X.xe a:=by
 have j:=c.hide i;have same:∀s':AE,(∀b o,a.heap.get? b=AA o->hid H1 d b=AB->b∉frs X.stack->s'.heap.get? b=AA o)->∀x:Hp,jh X.prog X.w x s'.heap d (.lst xs):=λs' kp x=>by
  obtain⟨y,aa,n,B,t⟩:=((show jh X.prog X.w H1 a.heap d (.lst xs)from c.hok d _ i));show(y,aa,n,B,kp d _ t yI λz=>by have:=c.stkFree d z;rw[i]at this;cases this)
 have r2:zS (vs++[]) (us++[]):=r.append .nil;have hl:(us++[]).length=ps.length:=by rw[<-r2.length];show F.len _ _ _ _ q
 show w1g (w04 (F.run X.A X.stack a (hid H1 d) (us,[]) (us++[]) (vs++[]) _ E0 D j.env0 (C a us c.kIn hl) r2 q) λr s' h=>?_);cases r with
 | error e=>show z5T A2 σ _ a e s' j h
 | ok fl=>
  cases fl with
  | ret u=>
   obtain⟨v,H2,O,E,l,N,M,I⟩:=(h);obtain⟨s,p,H,L,G,J⟩:=(j.after (Q:=λs H'=>s=v/\H'=H2) (v,H2,O,E,l,N,M,rfl,rfl));subst G J;have h2:p d=none:=by
    obtain⟨y,aa,n,B,t⟩:=((show jh X.prog X.w H1 a.heap d (.lst xs)from c.hok d _ i));show l.free d _ t yI (by simp)
   show(s,_,H.readopt c i h2 (same s' (λb o e n nf=>l.keep b o e n nf (by simp)) _),L,I h2)
  | next=>show False.elim h
  | brk=>show False.elim h
  | cont=>show False.elim h
def zfc(C:AD)(m:Str)(sp:Sp)(ta:TE):TE:=λσ H Q=>ta σ H λx H1=>∃a dx fs d xs,x= .ref a/\H1 a=AA (.ins C dx fs)/\fs.lookup m=AB/\H1 d=AA (.lst xs)/\sp [x] (hid H1 d) (λv H2=>H2 d=AB->Q v (upd H2 d (.lst xs))) E0
theorem z82{k:Nat}{m:Str}{o:Expr}{ta:TE}{pos apos:Pos}{C:AD}{pl:Sem Bool}(M:KnM X.prog X.w X.K X.mg X.base k m ps sp C)(i:Room k X.A)(j:PE X o ta)
  (ht:eval (.Call (.Attribute o m apos) [] [] pos) X.env=(do
   let c<-eval o X.env
   standAt apos.atName
   let (f,first)<-holding [c] (getMethod c m pl)
   callWith pos f first (backTo pos (AJ [] X.env)) (backToKw pos (keywordEach [] X.env))):=by rfl):
  PE X (.Call (.Attribute o m apos) [] [] pos) (zfc C m sp ta):=by
 obtain⟨f,fd,hm,F,e⟩:=(M.ex);intro A2 s σ H Q I h;show PySem.W.methodCall_KW (pl:=pl) (thn (j A2 s σ H _ I h) ?_) ht;intro u r zz;obtain⟨x,H1,b,n,a,dx,fs,d,xs,ex,ea,l,p,q⟩:=(zz);subst ex;obtain rfl:u=Value.ref a:=n;show z2E b ea M.cls hm l ?_;show PySem.W.callWith_K0 (first:= [.ref a]) b.kIn hm.kp (zdW (us:= [.ref a]) (vs:= [.ref a]) F i e b (.cons rfl .nil) p q)
end
section
theorem Room.m{j k:Nat}{A:Aj}(r:Room k A)(h:j<=k:=by first|decide|lia):Room j A:=r.mono h
end
end Lake
namespace Internal
local macro_rules|`(tactic|ac_rfl)=>`(tactic|(generalize hK0:K=K1;revert K1;refine jF (by walk_at "cl") ?_))
local macro_rules|`(-$f:ident $a*)=>`($f P w K mg base $a*)
open PySem Lake Cn Rw Qs
noncomputable def top(i:Nat):Stmt:=PySem.Challenge.pw_sheetask_k05_heads_and_refusals.main.body.getD i (.Pass (0,0,0,0))
noncomputable abbrev z1V:Stmt:=top 2
noncomputable abbrev z2K:Stmt:=top 3
noncomputable abbrev z6x:Stmt:=top 4
noncomputable abbrev z1D:Stmt:=top 5
noncomputable abbrev kF:Stmt:=top 16
noncomputable abbrev z1d:Stmt:=top 17
noncomputable abbrev z2N:Stmt:=top 18
noncomputable abbrev kZ:Stmt:=top 20
noncomputable abbrev z0o:Stmt:=top 21
noncomputable abbrev z1T:Stmt:=top 22
noncomputable abbrev kY:Stmt:=top 23
noncomputable abbrev z02:Stmt:=top 24
noncomputable abbrev z2F:Stmt:=top 25
noncomputable abbrev z1t:Stmt:=top 26
noncomputable abbrev z5a:Stmt:=top 28
noncomputable abbrev z2e:Stmt:=top 29
noncomputable abbrev z0R:Stmt:=top 30
noncomputable abbrev kf:Stmt:=top 32
noncomputable abbrev z0x:Stmt:=top 33
noncomputable abbrev z35:Stmt:=top 34
noncomputable abbrev jX:Stmt:=top 35
noncomputable abbrev z0r:Stmt:=top 36
noncomputable abbrev z3w:Stmt:=top 37
noncomputable abbrev z16:Stmt:=top 38
noncomputable abbrev kI:Stmt:=top 39
noncomputable abbrev z3v:Stmt:=top 41
noncomputable abbrev z4q:Stmt:=top 42
noncomputable abbrev z4b:Stmt:=top 43
noncomputable abbrev z1X:Stmt:=top 44
noncomputable abbrev kW:Stmt:=top 45
noncomputable abbrev z06:Stmt:=top 46
noncomputable abbrev z6q:Stmt:=top 47
noncomputable abbrev z4Q:Stmt:=top 48
noncomputable abbrev z1j:Stmt:=top 49
noncomputable abbrev z0S:Stmt:=top 50
noncomputable abbrev z4z:Stmt:=top 51
noncomputable abbrev z0y:Stmt:=top 53
noncomputable abbrev z2D:Stmt:=top 55
noncomputable abbrev z0L:Stmt:=top 56
noncomputable abbrev z0s:Stmt:=top 58
noncomputable abbrev z1R:Stmt:=top 60
noncomputable abbrev z1r:Stmt:=top 61
noncomputable abbrev z3G:Stmt:=top 62
noncomputable abbrev z1v:Stmt:=top 63
noncomputable abbrev z0V:Stmt:=top 64
noncomputable abbrev z1F:Stmt:=top 65
noncomputable abbrev jT:Stmt:=top 66
noncomputable abbrev kO:Stmt:=top 67
noncomputable abbrev z23:Stmt:=top 68
noncomputable abbrev kE:Stmt:=top 69
noncomputable abbrev z0k:Stmt:=top 70
noncomputable abbrev z1f:Stmt:=top 71
noncomputable abbrev z0d:Stmt:=top 72
noncomputable abbrev yj:Stmt:=top 73
noncomputable abbrev z05:Stmt:=top 74
noncomputable abbrev z1a:Stmt:=top 75
noncomputable abbrev z0W:Stmt:=top 76
noncomputable abbrev z18:Stmt:=top 77
noncomputable abbrev z08:Stmt:=top 78
noncomputable abbrev yh:Stmt:=top 79
noncomputable abbrev z1B:Stmt:=top 80
noncomputable abbrev z1E:Stmt:=top 81
noncomputable abbrev z22:Stmt:=top 82
noncomputable abbrev z5Y:Stmt:=top 83
structure Txt(K:W.Frag)(mg:Str->Option AC):Prop where
 isinstance:mg "isinstance"=AB
 int:mg "int"=AB
 bool:mg "bool"=AB
 list:mg "list"=AB
 tuple:mg "tuple"=AB
 str:mg "str"=AB
 len:mg "len"=AB
 range:mg "range"=AB
 min:mg "min"=AB
 max:mg "max"=AB
 sum:mg "sum"=AB
 sorted:mg "sorted"=AB
 reversed:mg "reversed"=AB
 zip:mg "zip"=AB
variable{P:AM}{w:Av}{mg:Str->Option AC}{base:AN}{a rs os:List (AD×List Int)}{b:Bool}{H H1 H' H0 H2:Hp}{p D np l0 rp r0 r1 r2 t dp Tb d C T ah wl dx al Ca Cq:AD}{xs ws us vs:List V}{i N j hl:Nat}{Q:V->Prop}{α:Type}{n s:Str}{tb:TS}{hs ns:List Str}{c:Cond}{x:List Int}{r q q' k' r':Qn}{R:AD->VK}{y u qv:V}{L:List (AD×List V)}{th:Str->List Str}{sp:Sp}{tr:Str->List (List Int)}{z:Int}{kvs:List (Key×V)}{o:AD×List Int}{E:XK}{lp:Pos}{τ:Nat->AD}{mk:Qn->Qn->Qn}
section
variable{K:W.Frag}{f:AD}{fd:A1}
seal PE PA PS PSs PT PI PO PG
local macro_rules | `(tactic| walk_at "s")=>`(tactic| exact(rfl,rfl,rfl,by decide,rfl,by decide,by decide))
theorem nb{a b:Str}(h:(a == b)=false):a≠b:=Qd h
local macro_rules | `(tactic| walk_at "cn")=>`(tactic| exact⟨by intros;(try dsimp only [z1e,Cx.nox,Cx.wish]) <;> exact rfl⟩)
local macro_rules | `(tactic| walk_at "cl")=>`(tactic| with_reducible first|exact zbs|exact z9K|exact z9y|exact ze0|exact z9d decl_name% #[]|exact z7f decl_name% #[]|exact z88 decl_name% #[]|exact zc1 decl_name% #[]|exact zb6 decl_name%|exact z9N decl_name%|exact z98 decl_name%|exact zdx decl_name%)
local macro_rules | `(tactic| walk_at "ca")=>`(tactic| with_reducible first|exact zef #[] #[] (by walk_at "cn")|exact zch #[] #[] (by walk_at "cn")|exact zbS #[] #[] (by walk_at "cn")|exact zep #[] #[] (by walk_at "cn")|exact zbR #[] #[] (by walk_at "cn")|exact z9R #[] #[] (by walk_at "cn")|exact z7y #[] (by walk_at "cn")|exact z5y #[] (by walk_at "cn")|exact z5Z #[] (by walk_at "cn")|exact zbW #[] (by walk_at "cn")|exact z9j #[] (by walk_at "cn")|walk_at "cn")
local macro_rules | `(tactic| clear $s:ident $v:ident $h:ident $q:ident $e:ident $x:ident $F:ident)=>`(tactic| refine Fun.okB $F $s (by intro _ _ _ _ h;cases h;subst_vars;rfl) (fun $v $h $q $e $x=> ?_))
local macro_rules|`(tactic|clear $s:ident F)=>`(tactic|clear $s vs H Q E h F)
local macro_rules | `(tactic| clear $a:ident $b:ident $c:ident $d:ident $e:ident)=>`(tactic| (refine(yx rfl,fun $a $b=> ?_);refine z58 (upd _ $a _) rfl $b fun $c $d $e=> ?_))
local macro_rules | `(tactic| clear $a:ident $b:ident $c:ident $d:ident $e:ident $_f:ident)=>`(tactic| refine z58 (upd _ $a _) rfl $b fun $c $d $e=> ?_)
def zy{i:Int}{v:V}(h:H p=AA (.lst xs))(e:atI xs i=AA v)(q:Q v):∃p' a b c,V.ref p= .ref p'/\V.int i= .int b/\SqL K H p' a/\atI a b=AA c/\Q c:=(p,xs,i,v,rfl,rfl,SqL.of h,e,q)
def zi{i:Int}{v:V}(h:H p=AA (.tup xs))(e:atI xs i=AA v)(q:Q v):∃p' a b c,V.ref p= .ref p'/\V.int i= .int b/\SqT K H p' a/\atI a b=AA c/\Q c:=(p,xs,i,v,rfl,rfl,SqT.of h,e,q)
def exr{P Q:α->Prop}{a:α}(h:P a)(q:Q a):∃x,P x/\Q x:=(a,h,q)
local macro_rules|`(!$x)=>`(exr rfl $x)
local macro_rules|`(tactic|done)=>`(tactic|walk_at "s")
local macro_rules|`(∅)=>`(by lia)|`(())=>`(by decide)|`(decl_name%)=>`(by walk_at "ca")|`(#[])=>`(by walk_at "cl")|`(⟨⟩)=>`(by walk_at "sl")
def ex2{β:Type}{A:α->Prop}{B:β->Prop}{Q:α->β->Prop}{a:α}{b:β}(h1:A a)(h2:B b)(q:Q a b):∃x y,A x/\B y/\Q x y:=(a,b,h1,h2,q)
local macro_rules|`(~~~$x)=>`(ex2 rfl rfl $x)
theorem z2k(f:α->V)(xs:List α)(lo hi:Option Int):z1Q (xs.map f) lo hi=((xs.drop (HT.sIx xs.length 0 lo)).take (HT.sIx xs.length xs.length hi-HT.sIx xs.length 0 lo)).map f:=by
 unfold z1Q;rw[wa,w1Z,List.map_drop]
inductive spWide(K:W.Frag)(vs:List V)(H:Hp)(Q:VK)(E:XK):Prop
 | mk:∀a (ns:List Int) few bd,vs= [.ref a,.int few,.int bd]->SqL K H a (ns.map V.int)->ns.length<=63->0<=few->few<=bd->(∀(m:Int)(H':Hp),zw H H'->0<=m->m<=few+40->Q (.int m) H')->spWide K vs H Q E
theorem z6j:FnScope ["_law_script","_law_few","_law_bound"] ["_law_script","_law_few","_law_bound"] (zj z1R):=by done
theorem z6y(F:Fun K "_law_wide" "_law_wide" z1R f fd)(T:Txt K mg):-FnOk CX0 1 f fd ["_law_script","_law_few","_law_bound"] (spWide K):=by
 clear z6j F;obtain⟨a,ns,few,bd,rfl,e,r,h0,o,q⟩:=h;intro ag A A3 n p;show(_,(zc (zG (cmT z6b (leN T.len (za v0 zb)) zd)
   (zf (zt v2))
   zv)
  (zf (zt (ixL (zD (za v1 (zK (zM (z5S rfl) rfl T.min PyProof.Rows.boot_min (yp (zq yC v1 zd) (za v2 zb))) zb))) (jq z5P rfl T.int PyProof.Rows.boot_int (z9x (cmE zO (zq zU (zM (z2a rfl) rfl T.sum w0H (zp (jy yN v0 yf (jI zd)) zb)) zd) zd) zb)))))),?_)
 ac_rfl;have hl:(ns.map V.int).length=ns.length:=wa _;show !(a,!(.inl e,~~~(!?_)));show ifF (wL (by rw[hl];lia)) ?_;show !(!(~~~(!(_,!((yx rfl),λlp l=>?_)))));have a1:=zE l (.lst [V.int few,V.int (if bd<few+40 then bd else few+40)]);show !(!(a,!(a1.seq e,λj d=>?_)));rw[z2k];show(j,!(SqL.of zm,~~~((by change(0:Int)<16;decide),rfl,.inr (!?_))));have a2:=a1.trans (zE d (.lst (((ns.drop (HT.sIx ns.length 0 AB)).take (HT.sIx ns.length ns.length (AA 3)-HT.sIx ns.length 0 AB)).map V.int)));obtain⟨b,c⟩:∃b,decide (V.int (((ns.drop (HT.sIx ns.length 0 AB)).take (HT.sIx ns.length ns.length (AA 3)-HT.sIx ns.length 0 AB)).sum%16)=V.int 5)=b:=(_,rfl)
 dsimp only at c ⊢;rw[c];have i:=(zE d (.lst (((ns.drop (HT.sIx ns.length 0 AB)).take (HT.sIx ns.length ns.length (AA 3)-HT.sIx ns.length 0 AB)).map V.int))) lp _ zm;cases b with
 | true=>show zy i jc (q _ _ a2 (by split<;>lia) (by split<;>lia))
 | false=>show zy i zL (q _ _ a2 ∅ ∅)
variable{σ:St}
theorem z6F{lo:Int}{n:Nat}{g:TG}{D:Ends}(a:Nat->St->Hp->Prop)(h0:a 0 σ H)
  (hs:∀i σ H (b:Ends),(∀σ H,a (i+1) σ H->b.nx σ H)->(∀v H,D.rt v H->b.rt v H)->i<n->a i σ H->g (.int (lo+i)) σ H λσ2 H2=>tb b σ2 H2)(hd:∀σ H,a n σ H->D.nx σ H):
  ∃W:Nat->Nat->St->Hp->Prop,(∃m,W 0 m σ H)/\∀i m σ H,W i m σ H->
   ((Itr lo n).stop i H/\D.nx σ H)\/((Itr lo n).go i H/\∃N:St->Hp->Prop,(∀σ' H',N σ' H'->∃c,c<m/\W (i+1) c σ' H')/\∀x H',(Itr lo n).yld i H x H'->g x σ H' λσ2 H2=>tb {D with nx:=N,ct:=N,bk:=D.nx} σ2 H2):=
 z1n a h0 (λi σ H hi p=>hs i σ H _ (λu u z=>z) (λu u z=>z) hi p) hd
theorem z1s{a:AD}{g:TG}{D:Ends}(b:Nat->St->Hp->Prop)(h0:b 0 σ H)(hl:∀i σ H,i<=xs.length->b i σ H->SqL K H a xs)
  (hs:∀i x σ H (c:Ends),(∀σ H,b (i+1) σ H->c.nx σ H)->(∀v H,D.rt v H->c.rt v H)->xs[i]? =AA x->b i σ H->g x σ H λσ2 H2=>tb c σ2 H2)(hd:∀σ H,b xs.length σ H->D.nx σ H):
  ∃W:Nat->Nat->St->Hp->Prop,(∃m,W 0 m σ H)/\∀i m σ H,W i m σ H->
   ((Itl K a).stop i H/\D.nx σ H)\/((Itl K a).go i H/\∃N:St->Hp->Prop,(∀σ' H',N σ' H'->∃d,d<m/\W (i+1) d σ' H')/\∀x H',(Itl K a).yld i H x H'->g x σ H' λσ2 H2=>tb {D with nx:=N,ct:=N,bk:=D.nx} σ2 H2):=
 z25 b h0 hl (λi x σ H hi p=>hs i x σ H _ (λu u z=>z) (λu u z=>z) hi p) hd
theorem zbL{a:AD}{g:TG}{D:Ends}(b:Nat->St->Hp->Prop)(h0:b 0 σ H)(hl:∀i σ H,i<=xs.length->b i σ H->SqT K H a xs)
  (hs:∀i x σ H (c:Ends),(∀σ H,b (i+1) σ H->c.nx σ H)->(∀v H,D.rt v H->c.rt v H)->xs[i]? =AA x->b i σ H->g x σ H λσ2 H2=>tb c σ2 H2)(hd:∀σ H,b xs.length σ H->D.nx σ H):
  ∃W:Nat->Nat->St->Hp->Prop,(∃m,W 0 m σ H)/\∀i m σ H,W i m σ H->
   ((Itt K a).stop i H/\D.nx σ H)\/((Itt K a).go i H/\∃N:St->Hp->Prop,(∀σ' H',N σ' H'->∃d,d<m/\W (i+1) d σ' H')/\∀x H',(Itt K a).yld i H x H'->g x σ H' λσ2 H2=>tb {D with nx:=N,ct:=N,bk:=D.nx} σ2 H2):=
 z9I b h0 hl (λi x σ H hi p=>hs i x σ H _ (λu u z=>z) (λu u z=>z) hi p) hd
def zcC{I:St->Hp->Prop}{D:Ends}(h:∀a:Ends,(∀σ H,I σ H->a.nx σ H)->(∀v H,D.rt v H->a.rt v H)->tb a σ H):∃N:St->Hp->Prop,(∀σ' H',N σ' H'->I σ' H')/\tb {D with nx:=N,ct:=N,bk:=D.nx} σ H:=(I,λu u z=>z,h _ (λu u z=>z) (λu u z=>z))
def exJ{A:(St->Hp->Prop)->Prop}{B:St->Hp->Prop}(J:St->Hp->Prop)(h:∀a:St->Hp->Prop,(∀σ H,J σ H->a σ H)->A a)(k:∀σ H,J σ H->B σ H):∃J,A J/\∀σ H,J σ H->B σ H:=(J,h J λv v z=>z,k)
theorem zc3:("(":Str).length=1:=by decide
theorem z96:(")":Str).length=1:=by decide
theorem z1z:(" ":Str).length=1:=by decide
theorem zeO:("less":Str).length=4:=by decide
theorem zez:("same":Str).length=4:=by decide
theorem zfT:("not":Str).length=3:=by decide
theorem zfS:("and":Str).length=3:=by decide
theorem zgz:("or":Str).length=2:=by decide
theorem zfu:("(pick ":Str).length=6:=by decide
theorem zfe:("(cols ":Str).length=6:=by decide
theorem zeN:("(sort ":Str).length=6:=by decide
theorem zdA:("(first ":Str).length=7:=by decide
theorem zeG:("(both ":Str).length=6:=by decide
theorem zeE:("(pair ":Str).length=6:=by decide
theorem zf0:("(join ":Str).length=6:=by decide
theorem zd6:("(group ":Str).length=7:=by decide
theorem zdM:("(pick (same ":Str).length=12:=by decide
theorem zgP:(") ":Str).length=2:=by decide
theorem l_n:("n":Str).length=1:=by decide
theorem l_s:("s":Str).length=1:=by decide
theorem zgQ:(" n":Str).length=2:=by decide
theorem zgE:(" s":Str).length=2:=by decide
local macro_rules | `(tactic| walk_at "sl")=>`(tactic| (simp only [w0q,zc3,z96,z1z,zeO,zez,zfT,zfS,zgz,zfu,zfe,zeN,zdA,zeG,zeE,zf0,zd6,zdM,zgP,l_n,l_s,zgQ,zgE,PySem.sizeLine_eq];try lia))
theorem z9l:∀i∈nums,(toString i:Str).length<=31/\i.natAbs.log2<1920:=by decide
theorem z0l:∀i∈z0v,(toString i:Str).length<=31/\i.natAbs.log2<1920:=by decide
theorem z1l(hn:∀n∈hs,n.length<=10):∀{a:Side},Side.small hs a->(Side.txt a).length<=31
 | .nm s,h=>wG (hn s h) ()
 | .nu i,h=>(z9l i h).1
theorem ko{hs:List Str}(hn:∀n∈hs,n.length<=10):∀{c:Cond},jz hs c->(yt c).length<=80*c.size
 | .less a b,h=>by
  have h1:=z1l hn h.1;have h2:=z1l hn h.2;simp only[yt,ends,Cond.size]
  (walk_at "sl")
 | .same a b,h=>by
  have h1:=z1l hn h.1;have h2:=z1l hn h.2;simp only[yt,ends,Cond.size]
  (walk_at "sl")
 | .no c,h=>by
  have h1:=ko hn (c:=c) h;simp only[yt,Cond.size]
  (walk_at "sl")
 | .an c d,h=>by
  have h1:=ko hn (c:=c) h.1;have h2:=ko hn (c:=d) h.2;simp only[yt,Cond.size]
  (walk_at "sl")
 | .or c d,h=>by
  have h1:=ko hn (c:=c) h.1;have h2:=ko hn (c:=d) h.2;simp only[yt,Cond.size]
  (walk_at "sl")
theorem ze3:inV (.str "less") [.str "less",.str "same"]=true:=by decide
theorem zdQ:inV (.str "same") [.str "less",.str "same"]=true:=by decide
theorem zft:inV (.str "not") [.str "less",.str "same"]=false:=by decide
theorem zeA:inV (.str "and") [.str "less",.str "same"]=false:=by decide
theorem zfA:inV (.str "or") [.str "less",.str "same"]=false:=by decide
noncomputable def wordOf:Cond->Str
 | .less _ _=>"less"
 | .same _ _=>"same"
 | .no _=>"not"
 | .an _ _=>"and"
 | .or _ _=>"or"
noncomputable def subs:Cond->List Cond
 | .no c=> [c]
 | .an c d=> [c,d]
 | .or c d=> [c,d]
 | _=> []
structure Seen(hs:List Str)(H:Hp)(c:Cond)(v:V)(p:AD)(xs:List V):Prop where
 e:v= .ref p
 h:H p=AA (.tup (.str (wordOf c)::xs))
 lf:inV (.str (wordOf c)) [.str "less",.str "same"]=c.leaf
 sd:c.leaf=true->∃a b,xs= [Side.v a,Side.v b]/\Side.small hs a/\Side.small hs b/\yt c="(" ++ wordOf c ++ " " ++ ends a b ++ ")"/\(c= .less a b\/c= .same a b)
 pt:c.leaf=false->xs.length=(subs c).length/\(∀(i:Nat) x,xs[i]? =AA x->∃d,(subs c)[i]? =AA d/\zI H d x/\d.size+1<=c.size/\jz hs d)/\
  yt c="(" ++ wordOf c ++ " " ++ Str.join " " ((subs c).map yt) ++ ")"
theorem seen{v:V}(h:zI H c v)(f:jz hs c):∃p xs,Seen hs H c v p xs:=by
 cases c with
 | less a b=>
  obtain⟨p,rfl,h⟩:=h;show(p,_,rfl,h,ze3,λu=>(a,b,rfl,f.1,f.2,rfl,.inl rfl),λz=>(by cases z))
 | same a b=>
  obtain⟨p,rfl,h⟩:=h;show(p,_,rfl,h,zdQ,λu=>(a,b,rfl,f.1,f.2,rfl,.inr rfl),λz=>(by cases z))
 | no c=>
  obtain⟨p,x,rfl,h,h1⟩:=h;show(p,_,rfl,h,zft,λz=>(by cases z),λu=>(rfl,λi y e=>?_,rfl))
  match i,e with
  | 0,e=>cases e;show(c,rfl,h1,wy _,f)
 | an c d=>
  obtain⟨p,x,y,rfl,h,h1,h2⟩:=h;show(p,_,rfl,h,zeA,λz=>(by cases z),λu=>(rfl,λi y e=>?_,rfl))
  match i,e with
  | 0,e=>cases e;show(c,rfl,h1,by simp only[Cond.size];lia,f.1)
  | 1,e=>cases e;show(d,rfl,h2,by simp only[Cond.size];lia,f.2)
 | or c d=>
  obtain⟨p,x,y,rfl,h,h1,h2⟩:=h;show(p,_,rfl,h,zfA,λz=>(by cases z),λu=>(rfl,λi y e=>?_,rfl))
  match i,e with
  | 0,e=>cases e;show(c,rfl,h1,by simp only[Cond.size];lia,f.1)
  | 1,e=>cases e;show(d,rfl,h2,by simp only[Cond.size];lia,f.2)
theorem z74{a:Side}(b:Side.small hs a):zcu (Side.v a) (Side.txt a):=by
 cases a with
 | nm s=>show .inr rfl
 | nu i=>show .inl (i,rfl,(z9l i b).2,rfl)
theorem z54(x:V)(r:List V):z1Q (x::r) (AA 1) AB=r:=by
 unfold z1Q;rw[show HT.sIx (x::r).length 0 (AA 1)=1 by unfold HT.sIx;simp];rw[HT.sIx_none,List.drop_succ_cons,w1E,wP,Nat.add_sub_cancel,qP]
theorem z4y{x:V}{r:List V}:¬(HT.sIx (x::r).length 0 (AA 1)=0/\HT.sIx (x::r).length (x::r).length AB=(x::r).length):=by
 rw[show HT.sIx (x::r).length 0 (AA 1)=1 by unfold HT.sIx;simp];rintro⟨z,_⟩;cases z
theorem z99(c:Cond):(subs c).length<=2:=by cases c<;>simp[subs]
theorem zeF(c:Cond):(((subs c).map yt).map (·.length)).sum+((subs c).map yt).length*1<=(Str.join " " ((subs c).map yt)).length+1:=by
 cases c with
 | less a b=>simp[subs]
 | same a b=>simp[subs]
 | no c=>simp[subs,Str.join]
 | an c d=>
  simp only[subs,qK,w1Q,Str.join,w0q,z1z,List.sum_cons,List.sum_nil,wP,QS]
  lia
 | or c d=>
  simp only[subs,qK,w1Q,Str.join,w0q,z1z,List.sum_cons,List.sum_nil,wP,QS]
  lia
inductive spSpelt(K:W.Frag)(n:Nat)(vs:List V)(H:Hp)(Q:VK)(E:XK):Prop
 | mk:∀v hs c,vs= [v]->zI H c v->jz hs c->(∀n∈hs,n.length<=10)->c.size<=n->c.size<=1000->(∀H',zw H H'->Q (.str (yt c)) H')->spSpelt K n vs H Q E
def ixr{R:V->Prop}{x:V}{i:Int}{v:V}(e:x= .ref p)(f:y= .int i)(s:SqT K H p xs)(a:atI xs i=AA v)(q:R v):∃p xs i v,x= .ref p/\y= .int i/\SqT K H p xs/\atI xs i=AA v/\R v:=(p,xs,i,v,e,f,s,a,q)
theorem z1g:FnScope ["_law_condition","_law_ends","_law_parts"] ["_law_condition"] (zj kE):=by done
theorem z3X(F:Fun K "_law_spelt" "_law_spelt" kE f fd)(T:Txt K mg)(n:Nat)(e:-Kn n "_law_spelt" ["_law_condition"] (spSpelt K n)):-FnOk CX0 (n+1) f fd ["_law_condition"] (spSpelt K (n+1)):=by
 clear z1g F;obtain⟨v,hs,c,rfl,hc,y,hn,hsz,X,q⟩:=(h);obtain⟨p,xs,rfl,t,lf,sd,pt⟩:=(seen hc y);have wl:(wordOf c).length<=4:=by cases c<;>simp only[wordOf]<;>decide
 intro ag A A3 R B;show(_,(zc (zG (z0b kU (ixT v0 zd) (zD (zh zg (zh zg zb))) (by with_unfolding_all rfl))
   (zc (seT 1 z1g (zq zo (zq zo (jq z2f rfl T.str Qm (zp (ixT v0 zd) zb)) zg) (jq z2f rfl T.str Qm (zp (ixT v0 zd) zb))))
   (zf (zt (zq zo (zq zo (zq zo (zq zo zg (ixT v0 zd)) zg) v1) zg))))
   zv)
  (zc (yb (j:=2) rfl z1g.nd rfl (w0v rfl) (CompSc.of (sx:=zj kE) (NX:= ["_law_condition","_law_ends","_law_parts"]) (fr:= []) (ix:= []) rfl rfl ()) (z3n (jy z4R v0 (jI zd) yf)) (λk k k k k k=>jm) (λk k k k k k=>(jd e B.m (za v0 zb))))
  (zf (zt (zq zo (zq zo (zq zo (zq zo zg (ixT v0 zd)) zg) (kH PySem.F.plainAttrs_str PySem.F.slot_str_join PySem.F.type_str_join z9n zg (za v2 zb))) zg))))),?_)
 ac_rfl;show !(ixr rfl rfl (SqT.of t) zL ((yx rfl),λlp J=>?_));have a1:=zE J (.lst [V.str "less",V.str "same"]);have r:=a1 _ _ t;show(lp,!(.inl (SqL.of zm),rfl,(by rfl),!?_));dsimp -proj only;rw[wW wQ,lf];cases bx:c.leaf with
 | true=>
  obtain⟨a,b,rfl,sa,o,es,_⟩:=(sd bx);have la:=z1l hn sa;have lb:=z1l hn o;show ifT rfl ?_;show !(ixr rfl rfl (SqT.of r) jc (_,!(z74 sa,~~~(⟨⟩,!(ixr rfl rfl (SqT.of r) jD (_,!(z74 o,~~~(⟨⟩,?_))))))));show !(ixr rfl rfl (SqT.of r) zL (~~~(⟨⟩,~~~(⟨⟩,!(~~~(⟨⟩,~~~(⟨⟩,?_)))))));have:=q _ a1;rw[es]at this;show this
 | false=>
  obtain⟨hl,L,es⟩:=(pt bx);show ifF rfl ?_;have U:=z99 c;show !(!(p,!(SqT.of r,z4y,λs D=>?_)));rw[z54];have a2:=a1.trans (zE D (.tup xs));have u:upd (upd H lp (.lst [V.str "less",V.str "same"])) s (.tup xs) s=AA (.tup xs):=zm;show(s,rfl,(_,SqT.of u),?_);show z3A (xs:=xs) (λi ys H'=>zw (upd (upd H lp (.lst [V.str "less",V.str "same"])) s (.tup xs)) H'/\ys=((subs c).take i).map λd=>V.str (yt d)) (zw.refl _,rfl) ?_ ?_ ?_
  .rintro i ys H' hi ⟨l,rfl⟩;show(SqT.of (l _ _ u),zH (by rw[wa,qi];lia))
  .rintro i x ys H' hi ⟨l,rfl⟩;obtain⟨d,hd,G,Y,O⟩:=(L i x hi);show !(x,hs,d,rfl,G.same (a2.trans l),O,hn,∅,∅,λS C=>(l.trans C,?_));rw[qA,hd,wT]
   rfl
  .rintro ys H' ⟨l,rfl⟩ rp I;rw[hl,qP];have z:=a2.trans (l.trans (zE I (.lst ((subs c).map λd=>V.str (yt d)))));have M:=z _ _ t;have N:((subs c).map λd=>V.str (yt d))=((subs c).map yt).map V.str:=by rw[List.map_map];rfl
   have o:=ko hn y;rw[es]at o;simp only[w0q,zc3,z96,z1z]at o;show !(ixr rfl rfl (SqT.of M) zL (~~~(⟨⟩,~~~(⟨⟩,(rfl,!(_,_,(subs c).map yt,rfl,rfl,SqL.of (by rw[<-N];show zm),?_,~~~(⟨⟩,~~~(⟨⟩,?_))))))))
   .have:=zeF c;simp only[z1z]
    lia
   .have:=q _ z;rw[es]at this;show this
theorem z2x(F:Fun K "_law_spelt" "_law_spelt" kE f fd)(T:Txt K mg)(a:∀k sp,FnOk P w K mg base CX0 k f fd ["_law_condition"] sp->Kn P w K mg base k "_law_spelt" ["_law_condition"] sp):∀n,FnOk P w K mg base CX0 n f fd ["_law_condition"] (spSpelt K n)
 | 0=>(λvs H Q E h=>by obtain⟨v,hs,c,rfl,_⟩:=h;rfl,λA A3 s H args us vs Q E d he b e h=>by
  obtain⟨v,hs,c,_,_,_,_,hz,_⟩:=h;have:=c.size_pos
  lia)
 | n+1=>z3X F T n (a n _ (z2x F T a n))
inductive spTrue(K:W.Frag)(n:Nat)(vs:List V)(H:Hp)(Q:VK)(E:XK):Prop
 | mk:∀v hp rp hs (rs:List Int) c,vs= [v,.ref hp,.ref rp]->zI H c v->jz hs c->H hp=AA (.lst (hs.map V.str))->H rp=AA (.lst (rs.map V.int))->rs.length=hs.length->c.size<=n->(∀H',zw H H'->Q (.bl (ev hs rs c)) H')->spTrue K n vs H Q E
theorem zdF:decide (V.str "same"=V.str "less")=false:=by decide
theorem zdk:decide (V.str "and"=V.str "not")=false:=by decide
theorem zd9:decide (V.str "or"=V.str "not")=false:=by decide
theorem zfX:decide (V.str "and"=V.str "or")=false:=by decide
theorem kB:FnScope ["_law_condition","_law_heads","_law_row","_law_word","_law_sides","_law_part","_law_told"] ["_law_condition","_law_heads","_law_row"] (zj z0k):=by done
theorem z55(F:Fun K "_law_true" "_law_true" z0k f fd)(T:Txt K mg)(n:Nat)(e:-Kn n "_law_true" ["_law_condition","_law_heads","_law_row"] (spTrue K n)):-FnOk CX0 (n+1) f fd ["_law_condition","_law_heads","_law_row"] (spTrue K (n+1)):=by
 clear kB F;obtain⟨v,I,rp,hs,rs,c,rfl,hc,sm,cr,fE,X,hsz,q⟩:=(h);obtain⟨p,xs,rfl,N,lf,sd,pt⟩:=(seen hc sm);intro ag A A3 sh hr;show(_,(zc (seT 3 kB (ixT v0 zd))
  (zc (zG (z0b kU v3 (zD (zh zg (zh zg zb))) (by with_unfolding_all rfl))
   (zc (seT 4 kB (zD zb))
   (zc (foR (z3n (jy z4R v0 (jI zd) yf)) (gnM 5 kB)
    (zf (zG (jj (zM jw rfl T.isinstance wJ (za v5 (za (yK (v:= .ty "str") rfl T.str Qm rfl) zb))))
     (zf (jb (apP v4 (zp (ixL v2 (kH wR qC qL yi v1 (za v5 zb))) zb))))
     (zf (jb (apP v4 (za v5 zb)))))))
   (zc (zG (cmT zO v3 zg)
    (zf (zt (cmE z4Y (ixL v4 zd) (ixL v4 zd))))
    zv)
   (zf (zt (cmE zO (ixL v4 zd) (ixL v4 zd)))))))
   zv)
  (zc (yb (j:=6) rfl kB.nd rfl (w0v rfl) (CompSc.of (sx:=zj z0k) (NX:= ["_law_condition","_law_heads","_law_row","_law_word","_law_sides","_law_part","_law_told"]) (fr:= ["_law_heads","_law_row"]) (ix:= [1,2]) rfl rfl ()) (z3n (jy z4R v0 (jI zd) yf)) (λg g g g g g=>jm) (λg g g g g g=>(jd e hr.m (za v0 (za v1 (za v2 zb))))))
  (zc (zG (cmT zO v3 zg)
   (zf (zt (z8O (ixL (pv 6) zd))))
   zv)
  (zc (zG (cmT zO v3 zg)
   (zf (zt (z4a kU yn (pv 6) (by with_unfolding_all rfl))))
   zv)
  (zf (zt (z4a kG yn (pv 6) (by with_unfolding_all rfl))))))))),?_)
 ac_rfl;show !(zi N zL ?_);show !((yx rfl),λlp bA=>?_);have a1:=zE bA (.lst [V.str "less",V.str "same"]);show(lp,!(.inl (SqL.of zm),rfl,(by rfl),!?_));generalize upd H lp (.lst [V.str "less",V.str "same"])=H1 at a1 ⊢;have S:=a1 _ _ N;have fW:=a1 _ _ cr;have fF:=a1 _ _ fE;rw[wW wQ,lf];cases bx:c.leaf with
 | true=>
  obtain⟨a,b,rfl,sa,sb,_,fA⟩:=(sd bx);show ifT rfl ?_;show((yx rfl),λsp C=>?_);have b1:=zE C (.lst []);have bt:=b1 _ _ S;show !(!(p,!(SqT.of bt,z4y,λl z=>?_)));rw[z54];have b2:=b1.trans (zE z (.tup [Side.v a,Side.v b]));have B:l≠sp:=(zr zm z).symm;have U:upd (upd H1 sp (.lst [])) l (.tup [Side.v a,Side.v b]) sp=AA (.lst []):=by rw[zn B.symm];show zm
  have r:upd (upd H1 sp (.lst [])) l (.tup [Side.v a,Side.v b]) l=AA (.tup [Side.v a,Side.v b]):=zm;generalize upd (upd H1 sp (.lst [])) l (.tup [Side.v a,Side.v b])=H2 at b2 U r ⊢;show(l,rfl,(_,SqT.of r),zbL (K:=K) (a:=l) (xs:= [Side.v a,Side.v b]) (λi σ H'=>∃J:Option V,σ= [AA (.ref p),AA (.ref I),AA (.ref rp),AA (.str (wordOf c)),AA (.ref sp),J,AB]/\zw H1 H'/\H' l=AA (.tup [Side.v a,Side.v b])/\H' sp=AA (.lst (([num hs rs a,num hs rs b].take i).map V.int)))
   (AB,rfl,b2,r,U) (λi σ H' _ ⟨_,_,_,h,_⟩=>SqT.of h) ?_ ?_)
  .rintro i x σ H' D R _ hi ⟨J,rfl,s',G,o⟩;have bH:∃d:Side,x=Side.v d/\Side.small hs d/\ [num hs rs a,num hs rs b].take (i+1)= [num hs rs a,num hs rs b].take i++[num hs rs d]:=by
    match i,hi with
    | 0,hi=>cases hi;show(a,rfl,sa,rfl)
    | 1,hi=>cases hi;show(b,rfl,sb,rfl)
   obtain⟨d,rfl,O,M⟩:=(bH);have L:=s' _ _ fW;have cs:=s' _ _ fF;have Y:((([num hs rs a,num hs rs b].take i).map V.int)).length<sizeLine:=zH (by rw[wa,qi];simp only[wP,QS];lia);cases d with
   | nm s=>
    show !(_,_,_,!(TyOf.str s,yJ,!?_));show ifT rfl ?_;have fT:hs.idxOf s<rs.length:=by rw[X];show qF.mpr O
    have Z:=jn O;show !(.inl (rfl,_,SqL.of o),!(!(.inl (rfl,_,SqL.of L),!(I,_,_,hs.idxOf s,rfl,rfl,SqL.of L,rfl,zY hs,Z.1,Z.2,zy cs (zZ (int_at fT)) (sp,~~~(o,Y,?_))))));show R _ _ (!(s'.put C,by rw[zn B];show G,by rw[zm,M,wT];rfl))
   | nu k=>
    show !(_,_,_,!(TyOf.int k,z1W,!?_));show ifF rfl ?_;show !(.inl (rfl,_,SqL.of o),!(sp,~~~(o,Y,?_)));show R _ _ (!(s'.put C,by rw[zn B];show G,by rw[zm,M,wT];rfl))
  .rintro σ H' ⟨J,rfl,s',G,o⟩;show !(rfl,!?_);have y:=q _ (a1.trans s');rcases fA with rfl|rfl
   .refine ifT rfl ?_;show !(zy o zL (!(zy o jc (ex2 rfl rfl y))))
   .refine ifF zdF ?_;show !(zy o zL (!(zy o jc (rfl,qbl z83 y))))
 | false=>
  obtain⟨hl,pK,es⟩:=(pt bx);show ifF rfl ?_;have gj:=z99 c;show !(!(p,!(SqT.of S,z4y,λl z=>?_)));rw[z54];have a2:=zE z (.tup xs);have r:upd H1 l (.tup xs) l=AA (.tup xs):=zm;generalize upd H1 l (.tup xs)=H2 at a2 r ⊢;show(l,rfl,(_,SqT.of r),?_);show z3A (xs:=xs) (λi ys H'=>zw H2 H'/\ys=((subs c).take i).map λd=>V.bl (ev hs rs d)) (zw.refl _,rfl) ?_ ?_ ?_
  .rintro i ys H' hi ⟨u,rfl⟩;show(SqT.of (u _ _ r),zH (by rw[wa,qi];lia))
  .rintro i x ys H' hi ⟨u,rfl⟩;obtain⟨d,hd,aE,xK,pL⟩:=(pK i x hi);have t:=a1.trans (a2.trans u);show !(!(!(x,I,rp,hs,rs,d,rfl,aE.same t,pL,t _ _ cr,t _ _ fE,X,∅,λH3 s3=>(u.trans s3,?_))));rw[qA,hd,wT]
   rfl
  .rintro ys H' ⟨u,rfl⟩ tp aS;rw[hl,qP];have a3:=a1.trans (a2.trans (u.trans (zE aS (.lst ((subs c).map λd=>V.bl (ev hs rs d))))));have y:=q _ a3;have fl:((subs c).map λd=>V.bl (ev hs rs d)).all yD=true:=by
    rw[List.all_map,qU];intro d _
    rfl
   show !(rfl,!?_);cases c with
   | less a b=>cases bx
   | same a b=>cases bx
   | no c=>
    show ifT rfl ?_;show !(zy zm zL (!y))
   | an c d=>
    show ifF zdk ?_;show !(rfl,!?_);show ifF zfX ?_;show !(tp,!(.inl (SqL.of zm),rfl,fl,qbl ?_ y))
    change(not (inV (V.bl false) [V.bl (ev hs rs c),V.bl (ev hs rs d)]))=(ev hs rs c&&ev hs rs d)
    cases ev hs rs c<;>cases ev hs rs d<;>rfl
   | or c d=>
    show ifF zd9 ?_;show !(rfl,!?_);show ifT rfl ?_;show !(tp,!(.inl (SqL.of zm),rfl,fl,qbl ?_ y))
    change inV (V.bl true) [V.bl (ev hs rs c),V.bl (ev hs rs d)]=(ev hs rs c||ev hs rs d)
    cases ev hs rs c<;>cases ev hs rs d<;>rfl
theorem z36(F:Fun K "_law_true" "_law_true" z0k f fd)(T:Txt K mg)(a:∀k sp,FnOk P w K mg base CX0 k f fd ["_law_condition","_law_heads","_law_row"] sp->Kn P w K mg base k "_law_true" ["_law_condition","_law_heads","_law_row"] sp):∀n,FnOk P w K mg base CX0 n f fd ["_law_condition","_law_heads","_law_row"] (spTrue K n)
 | 0=>(λvs H Q E h=>by obtain⟨v,b,rp,hs,rs,c,rfl,_⟩:=h;rfl,λA A3 s H args us vs Q E e he d i h=>by
  obtain⟨v,b,rp,hs,rs,c,_,_,_,_,_,_,hz,_⟩:=h;have:=c.size_pos
  lia)
 | n+1=>z55 F T n (a n _ (z36 F T a n))
theorem z4W{xs:List α}{i:Int}(h0:0<=i)(h1:i<(xs.length:Int)):∃(h:i.toNat<xs.length),atI xs i=AA xs[i.toNat]:=by
 have h:i.toNat<xs.length:=by lia
 show(h,z9T h0 (wb h))
theorem z0T{i n:Int}(h:0<n):0<=i%n/\i%n<n:=(Int.emod_nonneg _ ∅,Int.emod_lt_of_pos _ h)
theorem zf7{i:Int}(h0:0<=i)(h1:i<6):∃m∈nums,atI (nums.map V.int) i=AA (.int m):=by
 obtain⟨h,e⟩:=z4W (xs:=nums.map V.int) h0 (by change i<6;show h1);show(nums[i.toNat]'(by simpa using h),wz _,?_);rw[e,List.getElem_map]
theorem z1q{i:Int}(c:hs≠ []):∃s∈hs,atI (hs.map V.str) (i%(((hs.map V.str).length:Nat):Int))=AA (.str s):=by
 have hl:0<hs.length:=QZ.mpr c;have hm:(0:Int)<(((hs.map V.str).length:Nat):Int):=by rw[wa];lia
 obtain⟨a,b⟩:=z0T (i:=i) hm;obtain⟨h,e⟩:=z4W (xs:=hs.map V.str) a b;show(hs[(i%(((hs.map V.str).length:Nat):Int)).toNat]'(by simpa using h),wz _,?_);rw[e,List.getElem_map]
def j8{te:TE}{u:TS}{D:Ends}(J:V->Hp->Prop)(h:∀R:VK,(∀v H1,J v H1->R v H1)->te σ H R)(k:∀v H1,J v H1->u D (σ.set i (AA v)) H1):z1y (zdm te (z1L i)) u D σ H:=h _ k
def z2v{u:TS}{D:Ends}(σ':St)(e:σ=σ')(h:u D σ' H):u D σ H:=e ▸ h
def Has(H:Hp)(L:List (AD×List V)):Prop:=∀x∈L,H x.1=AA (.tup x.2)
def Has.ix(h:Has H L)(k:Nat)(e:L[k]? =AA (p,xs)):H p=AA (.tup xs):=h _ (qB e)
inductive Mn(A:Hp->V->Prop)(c:Nat)(H:Hp)(v:V)(H':Hp):Prop
 | mk:∀l aa,v= .ref l->zw H H'->H' l=AA (.lst aa)->(∀x∈aa,A H' x)->aa.length=c->Mn A c H v H'
section
variable{A:Hp->V->Prop}(mono:∀H H' x,zw H H'->A H x->A H' x){c:Nat}{G:Hp}{aa:List V}{R:VK}{pm:AD}
theorem Has.push(h:Has H L)(n:zw H H1)(x:H1 p=AA (.tup xs)):Has H1 ((p,xs)::L):=λz m=>(wF.mp m).elim (λe=>by rw[e];show x) λm=>n _ _ (h z m)
include mono
theorem nwF(s:zw G H)(hl:xs.length<=20)(new:∀x∈xs,A H x)(b:∀v H1,Mn A xs.length G v H1->R v H1):xs.length<=AI/\∀p,H p=AB->R (.ref p) (upd H p (.lst xs)):=
 (zR ∅,λp a=>b _ _ (p,_,rfl,s.trans (zE a _),zm,λx m=>mono _ _ _ (zE a _) (new x m),rfl))
theorem nwC(s:zw G H)(d:G pm=AA (.lst aa))(al:∀x∈aa,A G x)(lm:aa.length=c)(hl:c+xs.length<=20)(new:∀x∈xs,A H x)(f:∀v H1,Mn A (c+xs.length) G v H1->R v H1):xs.length<=AI/\∀p,H p=AB->zg3 (.ref pm) (.ref p) (upd H p (.lst xs)) R:=by
 show(zR ∅,λp b=>(pm,p,aa,xs,rfl,rfl,zE b _ _ _ (s _ _ d),zm,zR ∅,λl e=>?_));have a:=(zE b (.lst xs)).trans (zE e (.lst (aa++xs)));show f _ _ (l,_,rfl,s.trans a,zm,λx m=>(wA.mp m).elim (λm=>mono _ _ _ (s.trans a) (al x m)) λm=>mono _ _ _ a (new x m),by rw[wg,lm])
end
local macro_rules | `(tactic| walk_at "m1")=>`(tactic| ((try intro R hR);have s:=zw.refl G;have h:Has G []:=λ_ z=>nomatch z;repeat first | refine !?_ | (refine(tl _ (by simp),λp f=> ?_);refine z58 (upd _ p _) rfl f λH n x=> ?_;replace h:=h.push n x;replace s:=s.trans n;clear n x)))
local macro_rules | `(tactic| walk_at "m3")=>`(tactic| (rintro _ G ⟨pm,aa,rfl,s,xm,al,lm⟩;replace cF:=cF.same s;replace cS:=cS.same s;replace g0:=g0.trans s;refine z2v [AA (.ref hp),AA (.int ae),AA (.str one),AA (.str other),AA (.int num),AA vf,AA vs,AA (.ref pm)] rfl ?_))
inductive spAsking(K:W.Frag)(vs:List V)(H:Hp)(Q:VK)(E:XK):Prop
 | mk:∀hp ae (hs:List Str),vs= [.ref hp,.int ae]->H hp=AA (.lst (hs.map V.str))->hs≠ []->(∀(v:V)(c:Cond)(H':Hp),zw H H'->zI H' c v->jz hs c->c.size<=5->Q v H')->spAsking K vs H Q E
inductive Ck(hs:List Str)(H:Hp)(x:V):Prop
 | mk:∀c,zI H c x->jz hs c->c.size<=5->Ck hs H x
theorem Ck.mono(H H':Hp)(x:V)(s:zw H H')(h:Ck hs H x):Ck hs H' x:=by
 obtain⟨c,h1,h2,a⟩:=h;show(c,h1.same s,h2,a)
theorem ji:FnScope ["_law_heads","_law_seed","_law_one","_law_other","_law_number","_law_first","_law_second","_law_menu"] ["_law_heads","_law_seed"] (zj z1f):=by done
theorem z59(F:Fun K "_law_asking" "_law_asking" z1f f fd)(T:Txt K mg):-FnOk CX0 1 f fd ["_law_heads","_law_seed"] (spAsking K):=by
 clear ji F;obtain⟨hp,ae,hs,rfl,hh,aF,q⟩:=h;have hlen:(0:Int)<(((hs.map V.str).length:Nat):Int):=by
  have:=QZ.mpr aF;rw[wa];lia
 have tl:∀(x:Nat),x<=20->x<=sizeLine:=λx h=>zR ∅
 obtain⟨one,m1,e1⟩:=z1q (i:=ae) aF;obtain⟨other,m2,e2⟩:=z1q (i:=ae/3+1) aF;obtain⟨num,m3,e3⟩:=zf7 (z0T (i:=ae/2) (n:=6) ()).1 (z0T (i:=ae/2) (n:=6) ()).2;intro ag A A3 sh hr;show(_,(zc (seT 2 ji (ixL v0 (zq zU v1 (leN T.len (za v0 zb)))))
  (zc (seT 3 ji (ixL v0 (zq zU (zq yC (zq ye v1 zd) zd) (leN T.len (za v0 zb)))))
  (zc (seT 4 ji (ixL (zD (zh zd (zh zd (zd8 (z5M z3C zd) (zh zd (yp (z49 ((),(),())) (zh zd zb))))))) (zq zU (zq ye v1 zd) zd)))
  (zc (seT 5 ji (zu (zh zg (za v2 (za v4 zb)))))
  (zc (seT 6 ji (zu (zh zg (za v2 (za v3 zb)))))
  (zc (seT 7 ji (zD (za v5 (za (pv 6) (zA (zu (zh zg (zA (zu (zh zg (za v3 (za v4 zb)))) (zA (zu (zh zg (za v5 zb))) zb)))) zb)))))
  (zc (seT 7 ji (zq ju (pv 7) (zD (zA (zu (zh zg (za v5 (za (pv 6) zb)))) (zA (zu (zh zg (zA (zu (zh zg (za v4 (za v3 zb)))) zb))) zb)))))
  (zc (seT 7 ji (zq ju (pv 7) (zD (zA (zu (zh zg (zA (zu (zh zg (za v2 (za v3 zb)))) (zA (zu (zh zg (za (pv 6) (za v5 zb)))) zb)))) zb))))
  (zc (seT 7 ji (zq ju (pv 7) (zD (zA (zu (zh zg (za v4 (zh zd zb)))) (za (pv 6) (zA (zu (zh zg (za (pv 6) (za v5 zb)))) zb))))))
  (zf (zt (ixL (pv 7) (zq zU (zq ye v1 zd) zd))))))))))))),?_)
 ac_rfl;show j8 (λv H'=>v= .str one/\H'=H) (λR hR=>!(!(!(hp,!(.inl (SqL.of hh),_,!(rfl,hlen,zy hh e1 (hR _ _ (rfl,rfl)))))))) ?_;rintro _ H ⟨rfl,rfl⟩;show j8 (λv H'=>v= .str other/\H'=H) (λR hR=>!(!(_,!(rfl,((),()),_,!(rfl,!(hp,!(.inl (SqL.of hh),_,!(rfl,hlen,zy hh e2 (hR _ _ (rfl,rfl)))))))))) ?_;rintro _ H ⟨rfl,rfl⟩;show j8 (λv H'=>v= .int num/\zw H H') (λR hR=>!(tl 6 (),λl0 f0=>?_)) ?_
 .clear l0 f0 H0 n0 x0 l0;replace x0:H0 l0=AA (.lst (nums.map V.int)):=x0;show !(_,!(rfl,((),()),_,!(rfl,(by change(0:Int)<6;decide),l0,nums.map V.int,_,!(rfl,SqL.of x0,e3,hR _ _ (rfl,n0)))))
 rintro _ G ⟨rfl,g0⟩;show z2v [AA (.ref hp),AA (.int ae),AA (.str one),AA (.str other),AA (.int num),AB,AB,AB] rfl ?_;show j8 (λv H'=>zw G H'/\zI H' (.less (.nm one) (.nu num)) v) ?_ ?_
 .walk_at "m1"
  show hR _ _ (s,_,rfl,h.ix 0 rfl)
 rintro vf G ⟨s,cF⟩;replace g0:=g0.trans s;show z2v [AA (.ref hp),AA (.int ae),AA (.str one),AA (.str other),AA (.int num),AA vf,AB,AB] rfl ?_;show j8 (λv H'=>zw G H'/\zI H' (.same (.nm one) (.nm other)) v) ?_ ?_
 .walk_at "m1"
  show hR _ _ (s,_,rfl,h.ix 0 rfl)
 rintro vs G ⟨s,cS⟩;replace g0:=g0.trans s;replace cF:=cF.same s;show z2v [AA (.ref hp),AA (.int ae),AA (.str one),AA (.str other),AA (.int num),AA vf,AA vs,AB] rfl ?_;have lS:jz hs (.less (.nm one) (.nu num)):=(m1,m3);have okS:jz hs (.same (.nm one) (.nm other)):=(m1,m2);have pN:(1:Int)∈nums:=by decide
 show j8 (Mn (Ck hs) 3 G) ?_ ?_
 .walk_at "m1"
  show nwF Ck.mono (xs:= [_,_,_]) s (qe rfl) ?_ hR;show qm.mpr ((_,cF.same s,lS,by simp[Cond.size]),qm.mpr ((_,cS.same s,okS,by simp[Cond.size]),qf.mpr (.an (.same (.nm other) (.nu num)) (.no (.less (.nm one) (.nu num))),(_,_,_,rfl,h.ix 0 rfl,(_,rfl,h.ix 2 rfl),_,_,rfl,h.ix 1 rfl,cF.same s),((m2,m3),lS),by simp[Cond.size])))
 walk_at "m3"
 show j8 (Mn (Ck hs) 5 G) ?_ ?_
 .walk_at "m1"
  show nwC Ck.mono (xs:= [_,_]) s xm al lm (qe rfl) ?_ hR;show qm.mpr ((.or (.less (.nm one) (.nu num)) (.same (.nm one) (.nm other)),(_,_,_,rfl,h.ix 2 rfl,cF.same s,cS.same s),(lS,okS),by simp[Cond.size]),qf.mpr (.no (.less (.nu num) (.nm other)),(_,_,rfl,h.ix 0 rfl,_,rfl,h.ix 1 rfl),(m3,m2),by simp[Cond.size]))
 walk_at "m3"
 show j8 (Mn (Ck hs) 6 G) ?_ ?_
 .walk_at "m1"
  show nwC Ck.mono (xs:= [_]) s xm al lm (qe rfl) ?_ hR;show qf.mpr (.an (.less (.nm one) (.nm other)) (.or (.same (.nm one) (.nm other)) (.less (.nm one) (.nu num))),(_,_,_,rfl,h.ix 0 rfl,(_,rfl,h.ix 2 rfl),_,_,_,rfl,h.ix 1 rfl,cS.same s,cF.same s),((m1,m2),okS,lS),by simp[Cond.size])
 walk_at "m3"
 show j8 (Mn (Ck hs) 9 G) ?_ ?_
 .walk_at "m1"
  show nwC Ck.mono (xs:= [_,_,_]) s xm al lm (qe rfl) ?_ hR;show qm.mpr ((.same (.nu num) (.nu 1),(_,rfl,h.ix 1 rfl),(m3,pN),by simp[Cond.size]),qm.mpr ((_,cS.same s,okS,by simp[Cond.size]),qf.mpr (.an (.same (.nm one) (.nm other)) (.less (.nm one) (.nu num)),(_,_,_,rfl,h.ix 0 rfl,cS.same s,cF.same s),(okS,lS),by simp[Cond.size])))
 walk_at "m3"
 obtain⟨i0,i1⟩:=z0T (i:=ae/5) (n:=9) ();obtain⟨hi,ei⟩:=z4W (xs:=aa) i0 (by rw[lm];show i1);obtain⟨c,h1,h2,h3⟩:=al _ (wz hi);show !(!(_,!(rfl,((),()),_,!(rfl,(by change(0:Int)<9;decide),zy xm ei (q _ c _ g0 h1 h2 h3)))))
def ym{fs:List (AD×List Int)}(a:H np=AB)(n:zw H H')(x:H' np=AA (.lst (refs fs)))(hm:∀r∈fs,H r.1=AA (.lst (r.2.map V.int))):RowsAt H' np fs:=
 (x,λr m=>(zr (hm r m) a,n _ _ (hm r m)))
def z1p{x y z u:α}{r:List α}:atI (x::y::z::u::r) 3=AA u:=zZ (j:=3) rfl
structure Sub(rs:List (AD×List Int))(N:Nat)(fs:List (AD×List Int)):Prop where
 m:∀r∈fs,r∈rs
 l:fs.length<=N
theorem Sub.nil:Sub rs 0 []:=(λv h=>(by cases h),wy _)
theorem Sub.on{fs:List (AD×List Int)}{r:AD×List Int}(h:Sub rs N fs)(b:r∈rs):Sub rs (N+1) (fs++[r]):=(λx a=>(wA.mp a).elim (h.m x) λz=>by rw[wm.mp z];show b,by rw[wg];show Nat.succ_le_succ h.l)
theorem Sub.up{fs:List (AD×List Int)}{M:Nat}(h:Sub rs N fs)(k:N<=M):Sub rs M fs:=(h.m,wG h.l k)
def Sub.wid{fs:List (AD×List Int)}{w:Nat}(h:Sub rs N fs)(g:Wid w rs):Wid w fs:=⟨λr m=>g.e r (h.m r m)⟩
def Sub.all:Sub rs rs.length rs:=(λv h=>h,wy _)
inductive spPicked(K:W.Frag)(vs:List V)(H:Hp)(Q:VK)(E:XK):Prop
 | mk:∀th tr q v ae N,vs= [v,.int ae]->TabOk th tr->StAt th H v q N->okQ th q->(zB q).length<=4000000->N<=60->(∀(v':V)(c:Cond)(H':Hp)(N':Nat),zw H H'->StAt th H' v' (.pick c q) N'->N'<=N->jz (ze th q) c->c.size<=6->Q v' H')->spPicked K vs H Q E
theorem yg:FnScope ["_law_state","_law_seed","_law_condition","_law_rows","_law_line"] ["_law_state","_law_seed"] (zj z0d):=by done
theorem z56(F:Fun K "_law_picked" "_law_picked" z0d f fd)(T:Txt K mg)(a:-Kn 1 "_law_asking" ["_law_heads","_law_seed"] (spAsking K))(d:-Kn 7 "_law_true" ["_law_condition","_law_heads","_law_row"] (spTrue K 7))(b:-Kn 7 "_law_spelt" ["_law_condition"] (spSpelt K 7)):
  FnOk P w K mg base CX0 8 f fd ["_law_state","_law_seed"] (spPicked K):=by
 clear yg F;obtain⟨th,tr,q,v,ae,N,rfl,TT,aw,hok,g6,fG,fin⟩:=h;obtain⟨p,qv,Z,rp,rs,rfl,h1,h2,S,J,h5,rfl⟩:=aw;obtain⟨aF,nR⟩:=jx TT hok;have cu:=ja TT hok;have aI:(refs rs).length=rs.length:=wa _;intro ag A A3 sh I;have hu:=z3O I;show(_,(zc (yU (i:=2) yg.nd rfl (QO rfl) (jd a I.m (zp (ixT v0 zd) (za v1 zb))))
  (zc (yb (j:=3) rfl yg.nd rfl (w0v rfl) (CompSc.of (sx:=zj z0d) (NX:= ["_law_state","_law_seed","_law_condition","_law_rows","_law_line"]) (fr:= ["_law_condition","_law_state"]) (ix:= [2,0]) rfl rfl ()) (zW (ixT v0 zd)) (λk k k k k k=>(z2o (jj (jd d I.m (za v1 (zp (yw (z0a (K:=K) rfl) v2 zd (λk k=>rfl)) (za v0 zb))))))) (λk k k k k k=>v0))
  (zc (kP (z3k (cmT (z7P hu) v3 (zD zb)) (cmT z6b (zq zU v1 zd) zd))
   (zc (yU (i:=2) yg.nd rfl (QO rfl) (zu (zh zg (za v2 zb))))
   (zf (seT 3 yg (jq yL rfl T.list qY (zp (ixT v0 zd) zb)))))
   zv)
  (zc (seT 4 yg (zq zo (zq zo (zq zo (zq zo zg (jd b I.m (za v2 zb))) zg) (ixT v0 zd)) zg))
  (zf (zt (zu (zA (zu (zh zg (za v2 (zp (ixT v0 zd) zb)))) (za v4 (zp (ixT v0 zd) (za v3 zb))))))))))),?_)
 ac_rfl;show !(zi h1 jD (!(Z,ae,ze th q,rfl,S,aF,λcv c H1 G hc U sz=>?_)));have g1:=G _ _ h1;have L:=J.same G;show !(zi g1 z1p (rp,rfl,(_,SqL.of L.1),?_));show z0I (xs:=refs rs) (λi ys H'=>∃fs,zw H1 H'/\ys=refs fs/\Sub rs i fs) ([],zw.refl _,rfl,.nil) ?_ ?_ ?_
 .rintro i ys H' hi ⟨fs,n,rfl,o⟩;show(SqL.of (n _ _ L.1),zH ?_);have:=o.l;rw[wa]
  lia
 .rintro i x ys H' hi ⟨fs,n,rfl,o⟩;have C:i<rs.length:=by
   have:=(we.mp hi).1
   rwa [aI]at this
  rw[y7 C]at hi;cases hi;have t:=G.trans n;have bC:=(L.2 _ (wz C)).2;have hlen:=h5.e _ (wz C);show !(!(zi (t _ _ h1) jD (!(cv,Z,rs[i].1,ze th q,rs[i].2,c,rfl,hc.same n,U,t _ _ S,n _ _ bC,hlen,∅,λz s=>!?_))));show yZ (λk=>?_) (λk=>?_)
  .refine !(_,n.trans s,?_,o.on (wz C));simp[refs]
  .exact(_,n.trans s,rfl,o.up (w0L _))
 .rintro ys H' ⟨fs,n,rfl,o⟩ np ax;rw[aI]at o;clear np ax H2 n2 x2 np;have pO:=ym ax n2 x2 λr m=>n _ _ (L.2 r (o.m r m)).2
  have M:=G.trans (n.trans n2);have cW:=hc.same (n.trans n2);have g2:=M _ _ h1;have j2:=J.same M;show(λσ z=>∃(B:V)(y:Cond)(D:AD)(fs:List (AD×List Int)),σ= [AA (.ref p),AA (.int ae),AA B,AA (.ref D),AB]/\zw H z/\zI z y B/\jz (ze th q) y/\y.size<=6/\RowsAt z D fs/\Sub rs rs.length fs,?_,?_)
  .refine !?_;clear ep hep z n3 x3;show(np,ep,!(rfl,SqL.of (n3 _ _ x2),SqL.of x3,!(_,(!(~~~((by change(0:Int)<3;decide),~~~(!(rfl,rfl))))),?_)));have s:=M.trans n3;show yZ (λhb=>?_) (λhb=>?_)
   .refine !?_;clear kp nv H4 n4 x4;have u:=s.trans n4;show !(zi (u _ _ h1) z1p (rp,!(.inl (SqL.of (J.same u).1),λdp eX=>?_)));have j4:=J.same u;clear dp eX H5 n5 x5 dp;have dM:=ym eX n5 x5 λr m=>(j4.2 r m).2
    show(_,.no c,dp,rs,rfl,u.trans n5,(kp,cv,rfl,n5 _ _ x4,cW.same (n3.trans (n4.trans n5))),U,by simp only[Cond.size];lia,dM,.all)
   .exact(_,c,np,!(s,cW.same n3,U,∅,pO.same n3,o))
  .rintro σ z ⟨B,y,D,fs,rfl,s,nJ,Y,xL,tQ,e3⟩;have ls:=ko cu Y;have g3:=s _ _ h1;show !(B,ze th q,y,rfl,nJ,Y,cu,∅,∅,λH4 u=>?_);have R:=u _ _ g3;show ~~~(⟨⟩,~~~(⟨⟩,!(zi R jc (~~~(⟨⟩,~~~(⟨⟩,?_))))));show !(!(zi R zL ?_));clear qp dN H5 n5 x5;show !(!(zi (n5 _ _ R) jD (!?_)));clear sp aD H6 n6 x6;have X:=u.trans (n5.trans n6);have O:=s.trans X;show fin _ y _ _ O (sp,_,Z,D,fs,rfl,x6,(qp,B,qv,rfl,n6 _ _ x5,nJ.same X,h2.same O),O _ _ S,tQ.same X,e3.wid h5,rfl) e3.l Y xL
theorem z1k{m:Int}(h:0<=m):z1Q xs AB (AA m)=xs.take m.toNat:=by
 unfold z1Q;rw[HT.sIx_none,w1E,Nat.sub_zero];have e:HT.sIx xs.length xs.length (AA m)=min m.toNat xs.length:=by
  change(if m<0 then(m+(xs.length:Int)).toNat else min m.toNat xs.length)=_
  rw[wW ∅]
 rw[e,List.take_eq_take_iff]
 lia
theorem z9w{xs:List Int}{i:Int}(a:∀m∈xs,m∈z0v)(h0:0<=i)(h1:i<(xs.length:Int)):∃m∈z0v,atI (xs.map V.int) i=AA (.int m):=by
 obtain⟨h,e⟩:=z4W (xs:=xs.map V.int) h0 (by rw[wa];show h1);have h':i.toNat<xs.length:=by simpa using h
 show(xs[i.toNat],a _ (wz _),?_);rw[e,List.getElem_map]
noncomputable def z9e:List Int:= [9,1,5,3,12,7,0,10 ^ 9]
noncomputable def z9o:List Int:= [4,0,2,3,8,7,10 ^ 9]
theorem zcx:∀m∈z9e,m∈z0v:=by decide
theorem zbz:∀m∈z9o,m∈z0v:=by decide
theorem zgm:(z9e.length:Int)=8:=rfl
theorem zfz:(z9o.length:Int)=7:=rfl
theorem zbj(i:Int):∃m∈z0v,atI (z9e.map V.int) (i%8)=AA (.int m):=z9w zcx (z0T ()).1 (by rw[zgm];show(z0T ()).2)
theorem zcD(i:Int):∃m∈z0v,atI (z9o.map V.int) (i%7)=AA (.int m):=z9w zbz (z0T ()).1 (by rw[zfz];show(z0T ()).2)
def zgF(a:H0 l0=AA (HO.lst [V.int 9,V.int 1,V.int 5,V.int 3,V.int 12,V.int 7,V.int 0,V.int ((10:Int) ^ (9:Int).toNat)])):H0 l0=AA (.lst (z9e.map V.int)):=a
def zgt(a:H0 l0=AA (HO.lst [V.int 4,V.int 0,V.int 2,V.int 3,V.int 8,V.int 7,V.int ((10:Int) ^ (9:Int).toNat)])):H0 l0=AA (.lst (z9o.map V.int)):=a
theorem z5N:∀m∈z0v,0<=m:=by decide
def z7a{m:Int}(h:m∈z0v):zcu (.int m) (toString m):= .inl (m,rfl,(z0l m h).2,rfl)
inductive spHeaded(K:W.Frag)(vs:List V)(H:Hp)(Q:VK)(E:XK):Prop
 | mk:∀th q v ae N,vs= [v,.int ae]->StAt th H v q N->(zB q).length<=4000000->(∀(v':V)(q':Qn)(H':Hp)(N':Nat),zw H H'->StAt th H' v' q' N'->N'<=N->(∃n∈z0v,q'= .first n q\/∃m∈z0v,q'= .first m (.first n q))->Q v' H')->spHeaded K vs H Q E
def z5G(n:Nat)(h:RowsAt H rp rs):∀r∈rs.take n,H r.1=AA (.lst (r.2.map V.int)):=λr m=>(h.2 r (QB m)).2
theorem jr:FnScope ["_law_state","_law_seed","_law_many","_law_line","_law_question","_law_rows","_law_more"] ["_law_state","_law_seed"] (zj z1a):=by done
theorem z4M(F:Fun K "_law_headed" "_law_headed" z1a f fd)(T:Txt K mg):-FnOk CX0 1 f fd ["_law_state","_law_seed"] (spHeaded K):=by
 clear jr F;obtain⟨th,q,v,n,N,rfl,S,Z,fin⟩:=h;obtain⟨p,qv,B,rp,rs,rfl,h1,h2,G,M,x,rfl⟩:=S;obtain⟨m,a,L⟩:=zbj (n/2);obtain⟨d,c,O⟩:=zcD (n/16+n);have ll:=(z0l m a).1;have EX:=(z0l d c).1;have R:=z5N m a;have U:=z5N d c;intro ag A A3 X Y;show(_,(zc (seT 2 jr (ixL (zD (zh zd (zh zd (zh zd (zh zd (zh zd (zh zd (zh zd (yp (z49 ((),(),())) zb))))))))) (zq zU (zq ye v1 zd) zd)))
  (zc (seT 3 jr (zq zo (zq zo (zq zo (zq zo zg (jq z2f rfl T.str Qm (za v2 zb))) zg) (ixT v0 zd)) zg))
  (zc (seT 4 jr (zu (zh zg (za v2 (zp (ixT v0 zd) zb)))))
  (zc (seT 5 jr (jy yN (ixT v0 zd) yf (jI v2)))
  (zc (zG (cmT zO (zq zU v1 zd) zd)
   (zc (seT 6 jr (ixL (zD (zh zd (zh zd (zh zd (zh zd (zh zd (zh zd (yp (z49 ((),(),())) zb)))))))) (zq zU (zq yC (zq ye v1 zd) v1) zd)))
   (zc (seT 3 jr (zq zo (zq zo (zq zo (zq zo zg (jq z2f rfl T.str Qm (za (pv 6) zb))) zg) v3) zg))
   (zc (seT 4 jr (zu (zh zg (za (pv 6) (za v4 zb)))))
   (zf (seT 5 jr (jy yN v5 yf (jI (pv 6))))))))
   zv)
  (zf (zt (zu (za v4 (za v3 (zp (ixT v0 zd) (za v5 zb)))))))))))),?_)
 ac_rfl;clear l0 f0 H0 n0 x0;replace x0:=zgF x0;show !(~~~(((),()),~~~((by change(0:Int)<8;decide),zy x0 L ?_)));show !(_,!(z7a a,~~~(⟨⟩,~~~(⟨⟩,!(zi (n0 _ _ h1) jc (~~~(⟨⟩,~~~(⟨⟩,?_))))))));show !(!(zi (n0 _ _ h1) zL ?_));clear q1 f1 H1 n1 x1;have o:=n0.trans n1;have C:=M.same o;show !(zi (o _ _ h1) z1p (!(!(rp,!(SqL.of C.1,λr2 f2=>?_)))));rw[z1k R,<-w1Z];clear r2 f2 H2 n2 x2 r2;have e:=o.trans n2;have w2:=ym f2 n2 x2 (z5G _ C);have u:QAt H2 (.first m q) (.ref q1):=(q1,qv,rfl,n2 _ _ x1,h2.same e);have tk:∀{fs:List (AD×List Int)} (k:Nat),Sub rs rs.length fs->Sub rs rs.length (fs.take k):=λk h=>(λr z=>h.m r (QB z),by have:=h.l;rw[qi];lia)
 have i:=tk m.toNat Sub.all;have g7:(zB (.first m q)).length<=4000100:=by simp only[zB];(walk_at "sl")
 show !(~~~((by change(0:Int)<2;decide),rfl,!?_));show yZ (λJ=>?_) (λJ=>?_)
 .clear l3 f3 H3 n3 x3;replace x3:=zgt x3;show !(~~~(((),()),!(~~~(~~~((by change(0:Int)<7;decide),zy x3 O ?_)))));show !(_,!(z7a c,~~~(⟨⟩,~~~(⟨⟩,!(_,(zB (.first m q)),rfl,rfl,⟨⟩,~~~(⟨⟩,?_))))));show !(!?_);clear q4 f4 H4 n4 x4;have s:=n3.trans n4;have t:=w2.same s;show !(!(!(r2,!(SqL.of t.1,λj D=>?_))));rw[z1k U,<-w1Z];clear j D H5 n5 x5 j;have w5:=ym D n5 x5 (z5G _ t);have y:=s.trans n5;have I:=e.trans y;show !(!(!(zi (I _ _ h1) jD (!?_))));clear sp f6 H6 n6 x6;have b:=I.trans n6;show fin _ (.first d (.first m q)) _ _ b (sp,_,B,j,_,rfl,x6,(q4,!(n6 _ _ (n5 _ _ x4),u.same (y.trans n6))),b _ _ G,w5.same n6,(tk _ i).wid x,rfl) (tk _ i).l (m,a,.inr (d,c,rfl))
 .refine !(!(!(zi (e _ _ h1) jD (!?_))));clear sp f6 H6 n6 x6;have b:=e.trans n6;show fin _ (.first m q) _ _ b (sp,_,B,r2,_,rfl,x6,u.same n6,b _ _ G,w2.same n6,i.wid x,rfl) i.l (m,a,.inl rfl)
variable{gs:List (AD×List Int)}
def z9v{sp f d:AD}{a c:Qn}{b:V}{fs:List (AD×List Int)}(s:zw H H')(l:H' sp=AA (.tup [.ref f,.str (zB (.both a c)),.ref d,.ref np]))(h:H' f=AA (.tup [.str "both",qv,b]))(h1:QAt H' a qv)(h2:QAt H' c b)
  (n:H' d=AA (.lst ((ze th a).map V.str)))(i:RowsAt H' np (fs++gs))(j:Wid (ze th a).length fs)(o:Wid (ze th a).length gs):StAt th H' (.ref sp) (.both a c) (fs.length+gs.length):=
 (sp,_,d,np,_,rfl,l,(f,qv,b,rfl,h,h1,h2),n,i,⟨λr m=>(wA.mp m).elim (j.e r) (o.e r)⟩,wg)
theorem z7m{a b:AD}{fs:List (AD×List Int)}(c:H np=AB)(n:zw H H')(x:H' np=AA (.lst (refs fs++refs gs)))(h1:RowsAt H a fs)(h2:RowsAt H b gs):RowsAt H' np (fs++gs):=
 ym c n (by rw[x];simp[refs]) λr m=>by
  rcases wA.mp m with m|m
  .exact(h1.2 r m).2
  .exact(h2.2 r m).2
theorem z4I(b:∀s∈ze th q,s.length<=10)(a:jz (ze th q) c)(sz:c.size<=6):(zB (.pick c q)).length<=(zB q).length+1000:=by
 have ls:=ko b a;simp only[zB]
 (walk_at "sl")
inductive spDoubled(K:W.Frag)(vs:List V)(H:Hp)(Q:VK)(E:XK):Prop
 | mk:∀th tr q v ae N,vs= [v,.int ae]->TabOk th tr->StAt th H v q N->okQ th q->(zB q).length<=4000000->N<=60->(∀(v':V)(q':Qn)(c:Cond)(H':Hp)(N':Nat),zw H H'->StAt th H' v' q' N'->N'<=N+N->jz (ze th q) c->c.size<=6->(q'= .both q (.pick c q)\/q'= .both (.pick c q) q)->Q v' H')->spDoubled K vs H Q E
theorem jY:FnScope ["_law_state","_law_seed","_law_one","_law_other","_law_line"] ["_law_state","_law_seed"] (zj z0W):=by done
theorem z44(F:Fun K "_law_doubled" "_law_doubled" z0W f fd)(T:Txt K mg)(a:-Kn 8 "_law_picked" ["_law_state","_law_seed"] (spPicked K)):-FnOk CX0 9 f fd ["_law_state","_law_seed"] (spDoubled K):=by
 clear jY F;obtain⟨th,tr,q,v,n,N,rfl,TT,B,hok,C,Z,fin⟩:=h;have S:=ja TT hok;intro ag A A3 sh U;show(_,(zc (seT 2 jY v0)
  (zc (seT 3 jY (jd a U.m (za v0 (za v1 zb))))
  (zc (kP (cmT zO (zq zU (zq ye v1 zd) zd) zd)
   (zc (seT 2 jY v3)
   (zf (seT 3 jY v0)))
   zv)
  (zc (seT 4 jY (zq zo (zq zo (zq zo (zq zo zg (ixT v2 zd)) zg) (ixT v3 zd)) zg))
  (zf (zt (zu (zA (zu (zh zg (zp (ixT v2 zd) (zp (ixT v3 zd) zb)))) (za v4 (zp (ixT v0 zd) (yp (zq ju (ixT v2 zd) (ixT v3 zd)) zb))))))))))),?_)
 ac_rfl;show !?_;show !(!(th,tr,q,v,n,N,rfl,TT,B,hok,C,Z,λv1 c H1 N1 t r I u sz=>?_));have l:=B.same t;have lp:=z4I S u sz;have G:ze th (.pick c q)=ze th q:=rfl;show(λσ x=>∃(j tv:V)(b d:Qn)(i Nt:Nat),σ= [AA v,AA (.int n),AA j,AA tv,AB]/\x=H1/\StAt th H1 j b i/\StAt th H1 tv d Nt/\(zB b).length<=4001000/\(zB d).length<=4001000/\i+Nt<=N+N/\ze th d=ze th b/\ze th b=ze th q/\((b=q/\d= .pick c q)\/(b= .pick c q/\d=q)),?_,?_)
 .refine !(~~~(((),()),~~~((by change(0:Int)<2;decide),rfl,!?_)));show yZ (λL=>?_) (λL=>?_)
  .refine !?_;show !?_;show(_,_,_,_,~~~(r,l,∅,∅,∅,rfl,G,.inr (rfl,rfl)))
  .exact(_,_,_,_,~~~(l,r,∅,∅,∅,rfl,rfl,.inl (rfl,rfl)))
 .rintro σ x ⟨j,tv,b,d,i,Nt,rfl,rfl,J,X,lo,lt,O,D,eo,hq⟩;obtain⟨p,qv,hp,rp,rs,rfl,h1,h2,R,h4,h5,h6⟩:=l;obtain⟨p1,iH,ba,dM,bD,rfl,a1,a2,a3,o,M,rfl⟩:=J;obtain⟨p2,bT,bt,dO,bP,rfl,b1,b2,b3,s,y,rfl⟩:=X;rw[D]at y;show !(zi a1 jc (~~~(⟨⟩,~~~(⟨⟩,!(zi b1 jc (~~~(⟨⟩,~~~(⟨⟩,?_))))))));show !(zi a1 zL (!(zi b1 zL ?_)));clear qp dN H5 n5 x5;show !(!(zi (n5 _ _ h1) jD (!(zi (n5 _ _ a1) z1p (!(zi (n5 _ _ b1) z1p (_,_,~~~(n5 _ _ o.1,n5 _ _ s.1,zR (by rw[wa,wa];lia),λnp z=>?_))))))));clear np z H6 n6 x6 np;have Y:=z7m z n6 x6 (o.same n5) (s.same n5);clear sp aD H7 n7 x7;have e:=n5.trans (n6.trans n7);show fin _ (.both b d) c _ _ (t.trans e) (z9v e x7 (n7 _ _ (n6 _ _ x5)) (a2.same e) (b2.same e) (by rw[eo];show e _ _ R) (Y.same n7) M y) O u sz ?_;rcases hq with⟨rfl,rfl⟩|⟨rfl,rfl⟩
  .exact .inl rfl
  .exact .inr rfl
inductive TabAt(th:Str->List Str)(tr:Str->List (List Int))(H:Hp)(v:V)(n:Str):Prop
 | mk:∀(p hp rp:AD)(rs:List (AD×List Int)),v= .ref p->H p=AA (.tup [.str n,.ref hp,.ref rp])->H hp=AA (.lst ((th n).map V.str))->RowsAt H rp rs->rs.map (·.2)=tr n->TabAt th tr H v n
theorem TabAt.same{v:V}(h:TabAt th tr H v n)(e:zw H H'):TabAt th tr H' v n:=by
 obtain⟨p,c,rp,rs,rfl,h1,d,a,b⟩:=h;show(p,c,rp,rs,rfl,e _ _ h1,e _ _ d,a.same e,b)
theorem z6E{a:List (AD×List Int)}(T:TabOk th tr)(hn:n∈tabs)(e:a.map (·.2)=tr n):Wid (th n).length a:=⟨λr m=>T.rl n hn r.2 (by rw[<-e];show Q0.mpr (r,m,rfl))⟩
inductive spBeside(K:W.Frag)(vs:List V)(H:Hp)(Q:VK)(E:XK):Prop
 | mk:∀th tr q n v tv ae N,vs= [v,tv,.int ae]->TabOk th tr->StAt th H v q N->TabAt th tr H tv n->n∈tabs->ze th q=th n->n.length<=10->(zB q).length<=4000000->N<=60->(tr n).length<=60->(∀(v':V)(q':Qn)(H':Hp)(N':Nat),zw H H'->StAt th H' v' q' N'->N'<=N+(tr n).length->(q'= .both q (.table n)\/q'= .both (.table n) q)->Q v' H')->spBeside K vs H Q E
theorem yk:FnScope ["_law_state","_law_table","_law_seed","_law_one","_law_other","_law_line"] ["_law_state","_law_table","_law_seed"] (zj z18):=by done
theorem z4i(F:Fun K "_law_beside" "_law_beside" z18 f fd)(T:Txt K mg):-FnOk CX0 1 f fd ["_law_state","_law_table","_law_seed"] (spBeside K):=by
 clear yk F;obtain⟨th,tr,q,n,v,tv,D,N,rfl,TT,aw,ht,hn,r,S,g6,fG,tT,fin⟩:=(h);obtain⟨tp,nU,U,J,rfl,s,t3,t4,C⟩:=(ht);intro ag A A3 sh hr;show(_,(zc (seT 3 yk v0)
  (zc (seT 4 yk (zu (zA (zu (zh zg (zp (ixT v1 zd) zb))) (zp (ixT v1 zd) (zp (ixT v1 zd) (zp (ixT v1 zd) zb))))))
  (zc (kP (cmT zO (zq zU (zq ye v2 zd) zd) zd)
   (zc (seT 3 yk v4)
   (zf (seT 4 yk v0)))
   zv)
  (zc (seT 5 yk (zq zo (zq zo (zq zo (zq zo zg (ixT v3 zd)) zg) (ixT v4 zd)) zg))
  (zf (zt (zu (zA (zu (zh zg (zp (ixT v3 zd) (zp (ixT v4 zd) zb)))) (za v5 (zp (ixT v0 zd) (yp (zq ju (ixT v3 zd) (ixT v4 zd)) zb))))))))))),?_)
 ac_rfl;show !?_;show !(zi s zL ?_);clear qp dN H1 n1 x1;have i:=n1 _ _ s;show !(zi i zL (!(zi i jc (!(zi i jD ?_)))));clear sp0 hsp0 H2 n2 x2;have d:=n1.trans n2;have x:StAt th H2 (.ref sp0) (.table n) (tr n).length:=(sp0,_,nU,U,J,rfl,x2,(qp,rfl,n2 _ _ x1),d _ _ t3,t4.same d,z6E TT hn C,by rw[<-C,wa]);have e:=aw.same d;have EY:(zB (.table n)).length<=10:=S;show(λσ y=>∃(l o:V)(a b:Qn)(j Nt:Nat),σ= [AA v,AA (.ref tp),AA (.int D),AA l,AA o,AB]/\y=H2/\StAt th H2 l a j/\StAt th H2 o b Nt/\(zB a).length<=4000000/\(zB b).length<=4000000/\j+Nt<=N+(tr n).length/\ze th b=ze th a/\ze th a=ze th q/\((a=q/\b= .table n)\/(a= .table n/\b=q)),?_,?_)
 .refine !(~~~(((),()),~~~((by change(0:Int)<2;decide),rfl,!?_)));show yZ (λL=>?_) (λL=>?_)
  .refine !?_;show !?_;show(_,_,_,_,~~~(x,e,∅,∅,∅,r,r.symm,.inr (rfl,rfl)))
  .exact(_,_,_,_,~~~(e,x,∅,∅,∅,r.symm,rfl,.inl (rfl,rfl)))
 .rintro σ y ⟨l,o,a,b,j,Nt,rfl,rfl,I,X,lo,lt,O,G,Z,hq⟩;obtain⟨p,qv,hp,rp,rs,rfl,h1,h2,R,h4,h5,h6⟩:=(e);obtain⟨p1,iH,ba,dM,bD,rfl,a1,a2,a3,t,M,rfl⟩:=(I);obtain⟨p2,bT,bt,dO,bP,rfl,b1,b2,b3,u,z,rfl⟩:=(X);rw[G]at z;show !(zi a1 jc (~~~(⟨⟩,~~~(⟨⟩,!(zi b1 jc (~~~(⟨⟩,~~~(⟨⟩,?_))))))));show !(zi a1 zL (!(zi b1 zL ?_)));clear qp' hqp' H5 n5 x5;show !(!(zi (n5 _ _ h1) jD (!(zi (n5 _ _ a1) z1p (!(zi (n5 _ _ b1) z1p (_,_,~~~(n5 _ _ t.1,n5 _ _ u.1,zR (by rw[wa,wa];lia),λnp B=>?_))))))));clear np B H6 n6 x6 np;have Y:=z7m B n6 x6 (t.same n5) (u.same n5);clear sp aD H7 n7 x7;have c:=n5.trans (n6.trans n7);show fin _ (.both a b) _ _ (d.trans c) (z9v c x7 (n7 _ _ (n6 _ _ x5)) (a2.same c) (b2.same c) (by rw[Z];show c _ _ R) (Y.same n7) M z) O ?_;rcases hq with⟨rfl,rfl⟩|⟨rfl,rfl⟩
  .exact .inl rfl
  .exact .inr rfl
theorem z7B{m:Int}(h:0<=m):z1Q xs (AA m) AB=xs.drop m.toNat:=by
 unfold z1Q;rw[HT.sIx_none];have e:HT.sIx xs.length 0 (AA m)=min m.toNat xs.length:=by
  change(if m<0 then(m+(xs.length:Int)).toNat else min m.toNat xs.length)=_
  rw[wW ∅]
 rw[e];by_cases hm:m.toNat<=xs.length
 .rw [Nat.min_eq_left hm,w1j (by rw[w1d];lia)]
 .rw [Nat.min_eq_right ∅,List.drop_of_length_le (wy _),List.drop_of_length_le ∅,List.take_nil]
theorem z7M(hs:List α)(t:Nat):(hs.drop t++hs.take t).Perm hs:=by
 have:=List.perm_append_comm (l₁:=hs.drop t) (l₂:=hs.take t)
 rwa [List.take_append_drop]at this
theorem za8(h:∀n∈ns,n.length<=10):(ns.map (·.length)).sum<=10*ns.length:=by
 induction ns with
 | nil=>show wy _
 | cons n ns a=>
  have h1:=h n qI;have h2:=a λm hm=>h m (q5 _ hm)
  rw[qK,List.sum_cons,wP]
  lia
theorem z4k:∀{ns:List Str},(∀n∈ns,n.length<=10)->(Str.join " " ns).length<=11*ns.length
 | [],_=>by simp[Str.join];decide
 | [n],h=>by
  have:=h n qI;simp only[Str.join,wZ]
  lia
 | n::m::ns,h=>by
  have h1:=h n qI;have h2:=z4k (ns:=m::ns) λx a=>h x (q5 _ a)
  simp only[Str.join,w0q,z1z];have e:(n::m::ns).length=(m::ns).length+1:=rfl
  lia
inductive spColumns(K:W.Frag)(vs:List V)(H:Hp)(Q:VK)(E:XK):Prop
 | mk:∀th tr q v ae N,vs= [v,.int ae]->TabOk th tr->StAt th H v q N->okQ th q->(zB q).length<=4000000->N<=60->(ze th q).length<=1000->(∀(v':V)(ns:List Str)(H':Hp),zw H H'->StAt th H' v' (.cols ns q) N->ns≠ []->ns.Nodup->(∀n∈ns,n∈ze th q)->Q v' H')->spColumns K vs H Q E
theorem jJ:FnScope ["_law_state","_law_seed","_law_turn","_law_names","_law_spots","_law_rows","_law_line"] ["_law_state","_law_seed"] (zj yj):=by done
theorem z41(F:Fun K "_law_columns" "_law_columns" yj f fd)(T:Txt K mg):-FnOk CX0 1 f fd ["_law_state","_law_seed"] (spColumns K):=by
 clear jJ F;obtain⟨th,tr,q,v,L,N,rfl,TT,aw,hok,g6,fG,gQ,fin⟩:=(h);obtain⟨p,qv,G,rp,rs,rfl,h1,h2,D,h4,h5,rfl⟩:=(aw);obtain⟨aF,nR⟩:=jx TT hok;have cu:=ja TT hok;have aI:(refs rs).length=rs.length:=wa _;generalize hhs:ze th q=hs at *;have hlen:(0:Int)<(((hs.map V.str).length:Nat):Int):=by
  have:=QZ.mpr aF;rw[wa];lia
 intro ag A A3 sh hr;show(_,(zc (seT 2 jJ (zq zU v1 (leN T.len (zp (ixT v0 zd) zb))))
  (zc (seT 3 jJ (zq ju (jy yN (ixT v0 zd) (jI v2) yf) (jy yN (ixT v0 zd) yf (jI v2))))
  (zc (kP (z3k (cmT zO (zq zU (zq ye v1 zd) zd) zd) (cmT z6b (leN T.len (za v3 zb)) zd))
   (zf (seT 3 jJ (jy yN v3 (jI zd) yf)))
   zv)
  (zc (yU (i:=4) jJ.nd rfl (QO rfl) (jH rfl (CompSc.of (sx:=zj yj) (NX:= ["_law_state","_law_seed","_law_turn","_law_names","_law_spots","_law_rows","_law_line"]) (fr:= ["_law_state"]) (ix:= [0]) rfl rfl ()) (zW v3) (λk k k k k k=>jm) (λk k k k k k=>(z8g (K:=K) rfl wR qC qL (z67 (K:=K) rfl) (yw (z0a (K:=K) rfl) v1 zd (λk k=>rfl)) (za v0 zb)))))
  (zc (yb (j:=5) rfl jJ.nd rfl (w0v rfl) (CompSc.of (sx:=zj yj) (NX:= ["_law_state","_law_seed","_law_turn","_law_names","_law_spots","_law_rows","_law_line"]) (fr:= ["_law_spots"]) (ix:= [4]) rfl rfl ()) (zW (ixT v0 zd)) (λk k k k k k=>jm) (λk k k k k k=>(jH rfl (CompSc.of2 (sx:=zj yj) (NX:= ["_law_row","_law_spots"]) (fr:= ["_law_row"]) (ix:= [0]) rfl rfl ()) (z7o (K:=K) rfl v1) (λk k k k k k=>jm) (λk k k k k k=>(yw (yF (K:=K) rfl) v1 v0 (λk k=>rfl))))))
  (zc (seT 6 jJ (zq zo (zq zo (zq zo (zq zo zg (kH PySem.F.plainAttrs_str PySem.F.slot_str_join PySem.F.type_str_join z9n zg (za v3 zb))) zg) (ixT v0 zd)) zg))
  (zf (zt (zu (zA (zu (zh zg (zK (jq z1c rfl T.tuple w0e (za v3 zb)) (zp (ixT v0 zd) zb)))) (za (pv 6) (za v3 (za v5 zb))))))))))))),?_)
 ac_rfl;show !(!(zi h1 jD (G,!(.inl (SqL.of D),~~~(hlen,?_)))));obtain⟨O,t1⟩:=z0T (i:=L) hlen;obtain⟨a,tK⟩:∃a,L%(((hs.map V.str).length:Nat):Int)=a:=(_,rfl)
 dsimp -proj only;rw[tK]at O t1 ⊢;show !(zi h1 jD (!(!(G,!(SqL.of D,λl1 f1=>?_)))));rw[z7B O,<-List.map_drop];clear l1 f1 H1 n1 x1 l1;show !(zi (n1 _ _ h1) jD (!(!(G,!(SqL.of (n1 _ _ D),λl2 f2=>?_)))));rw[z1k O,<-w1Z];clear l2 f2 H2 n2 x2 l2;show(_,_,~~~(n2 _ _ x1,x2,zR (by rw[wa,wa,w1d,qi];lia),λs f3=>?_));rw[<-wT];clear s f3 H3 n3 x3 s;have pm:=z7M hs a.toNat
 have nl:(hs.drop a.toNat++hs.take a.toNat).length=hs.length:=pm.length_eq;have u:(hs.drop a.toNat++hs.take a.toNat).Nodup:=pm.nodup_iff.mpr nR;have l:∀n∈hs.drop a.toNat++hs.take a.toNat,n∈hs:=λn hn=>pm.mem_iff.mp hn
 generalize hs.drop a.toNat++hs.take a.toNat=ns0 at x3 nl u l;have s3:=n1.trans (n2.trans n3);show(λσ t=>∃(np:AD)(ns:List Str),σ= [AA (.ref p),AA (.int L),AA (.int a),AA (.ref np),AB,AB,AB]/\zw H t/\t np=AA (.lst (ns.map V.str))/\ns≠ []/\ns.Nodup/\(∀n∈ns,n∈hs)/\ns.length<=1000,?_,?_)
 .refine !(~~~(((),()),~~~((by change(0:Int)<3;decide),rfl,!(_,(!(s,!(.inl (SqL.of x3),~~~(!(rfl,rfl))))),?_))));show yZ (λY=>?_) (λY=>?_)
  .rw [qX]at Y;have ft:=Qq Y.2;rw[wa]at ft;show !(1,rfl,s,!(SqL.of x3,λl4 f4=>?_));rw[z7B (),<-List.map_drop];clear l4 f4 t n4 o l4;show(l4,ns0.drop 1,rfl,s3.trans n4,o,λz=>?_,u.sublist (List.drop_sublist _ _),λn hn=>l n (List.mem_of_mem_drop hn),by rw[w1d];lia);have:=QG List.length z;rw[w1d]at this;simp at this
   lia
  .refine(s,ns0,rfl,s3,x3,λz=>?_,u,l,∅);rw[z]at nl;show aF (QV.mp nl.symm)
 .rintro σ t ⟨np,ns,rfl,B,o,xN,u,l,xO⟩;have lY:∀n∈ns,n.length<=10:=λn hn=>cu n (l n hn)
  show !(np,rfl,(_,SqL.of o),?_);show je (xs:=ns.map V.str) (λi ys H'=>zw t H'/\ys=(ns.take i).map λn=>V.int ((hs.idxOf n:Nat):Int)) (zw.refl _,rfl) ?_ ?_ ?_
  .rintro i ys H' hi ⟨c,rfl⟩;show(SqL.of (c _ _ o),zH (by rw[wa,qi];lia))
  .rintro i x ys H' hi ⟨c,rfl⟩;have U:i<ns.length:=by
    have:=(we.mp hi).1
    rwa [wa]at this
   rw[wK,wb U]at hi;cases hi;have eG:=jn (l _ (wz U));have g3:=(B.trans c) _ _ D;show !(zi ((B.trans c) _ _ h1) jD (.inl (rfl,_,SqL.of g3),!(G,_,_,hs.idxOf ns[i],rfl,rfl,SqL.of g3,rfl,zY hs,eG.1,eG.2,c,?_)));rw[qA,wb U,wT]
   rfl
  .rintro ys H' ⟨c,rfl⟩ sp aD;rw[wa,qP];clear sp aD H5 n5 x5 sp;have s5:=B.trans (c.trans n5);have S:=h4.same s5;show !(zi (s5 _ _ h1) z1p (rp,rfl,(_,SqL.of S.1),?_));show je (xs:=refs rs) (λi ys H'=>zw H5 H'/\∃b:List (AD×List Int),ys=refs b/\b.length=i/\(∀r∈b,H' r.1=AA (.lst (r.2.map V.int)))/\Wid ns.length b) (zw.refl _,[],rfl,rfl,λk z=>(by cases z),⟨λk z=>(by cases z)⟩) ?_ ?_ ?_
   .rintro i ys H6 hi ⟨d,b,rfl,I,_,_⟩;rw[aI]at hi;show(SqL.of (d _ _ S.1),zH (by rw[wa];lia))
   .rintro i x ys H6 hi ⟨d,b,rfl,I,dC,M⟩;have Z:i<rs.length:=by
     have:=(we.mp hi).1
     rwa [aI]at this
    rw[y7 Z]at hi;cases hi;have bC:=(S.2 _ (wz Z)).2;have eK:rs[i].2.length=hs.length:=h5.e _ (wz Z);show !(sp,rfl,(_,SqL.of (d _ _ x5)),?_);show je (xs:=ns.map λn=>V.int ((hs.idxOf n:Nat):Int)) (λm ys H'=>H'=H6/\ys=((ns.take m).map λn=>rs[i].2.getD (hs.idxOf n) 0).map V.int) (rfl,rfl) ?_ ?_ ?_
    .rintro m ys J hm ⟨rfl,rfl⟩;show(SqL.of (d _ _ x5),zH (by rw[wa,wa,qi];lia))
    .rintro m x ys J hm ⟨rfl,rfl⟩;have X:m<ns.length:=by
      have:=(we.mp hm).1
      rwa [wa]at this
     rw[wK,wb X]at hm;cases hm;have fT:hs.idxOf ns[m]<rs[i].2.length:=by rw[eK];show qF.mpr (l _ (wz X))
     show !(!(zy (d _ _ bC) (zZ (int_at fT)) (rfl,?_)));rw[qA,wb X,wT,wT]
     rfl
    .rintro ys J ⟨rfl,rfl⟩ lp bA;rw[wa,qP];have y:=zE bA (.lst ((ns.map λn=>rs[i].2.getD (hs.idxOf n) 0).map V.int));show(d.trans y,b++[(lp,ns.map λn=>rs[i].2.getD (hs.idxOf n) 0)],by simp[refs],by rw[wg,I];rfl,λr m=>?_,?_)
     .rcases wA.mp m with m|m
      .exact y _ _ (dC r m)
      .rw [wm.mp m];show zm
     .exact⟨λr m=>(wA.mp m).elim (M.e r) λz=>by rw[wm.mp z];show wa _⟩
   .rintro ys H6 ⟨d,b,rfl,I,dC,M⟩ wp de;clear wp de J n7 x7 wp;have w7:=ym de n7 x7 dC;have xP:=d.trans n7;have C:=c.trans (n5.trans xP);have R:=B.trans C;have jl:=z4k lY;have sl:=za8 lY;show(rfl,!(_,np,ns,rfl,rfl,SqL.of (C _ _ o),by rw[z1z];lia,~~~(⟨⟩,~~~(⟨⟩,!(zi (R _ _ h1) jc (~~~(⟨⟩,~~~(⟨⟩,?_))))))));show !(np,!(.inl (SqL.of (C _ _ o),λtp aS=>?_)));clear tp aS H8 y x8 tp;show !(zi (y _ _ (R _ _ h1)) zL ?_);clear qp dN H9 n9 x9;show !(!(!?_));clear sp' hsp' H10 eL x10;have gR:=y.trans (n9.trans eL);have nW:=R.trans gR;show fin _ ns _ nW (sp',_,np,wp,b,rfl,x10,(qp,tp,qv,rfl,eL _ _ x9,eL _ _ (n9 _ _ x8),h2.same nW),(C.trans gR) _ _ o,w7.same gR,M,by rw[I,aI]) xN u l
inductive spSorted(K:W.Frag)(vs:List V)(H:Hp)(Q:VK)(E:XK):Prop
 | mk:∀th tr q v ae N,vs= [v,.int ae]->TabOk th tr->StAt th H v q N->okQ th q->(zB q).length<=4000000->N<=60->(∀(v':V)(n:Str)(H':Hp),zw H H'->StAt th H' v' (.sort n q) N->n∈ze th q->Q v' H')->spSorted K vs H Q E
theorem jS:FnScope ["_law_state","_law_seed","_law_name","_law_spot","_law_keys","_law_rows","_law_pair","_law_line"] ["_law_state","_law_seed"] (zj z05):=by done
theorem z4s(F:Fun K "_law_sorted" "_law_sorted" z05 f fd)(T:Txt K mg):-FnOk CX0 1 f fd ["_law_state","_law_seed"] (spSorted K):=by
 clear jS F;obtain⟨th,tr,q,v,U,N,rfl,TT,aw,hok,g6,fG,fin⟩:=h;obtain⟨p,qv,S,rp,rs,rfl,h1,h2,y,B,Y,rfl⟩:=aw;obtain⟨aF,nR⟩:=jx TT hok;have cu:=ja TT hok;have J:(refs rs).length=rs.length:=wa _;have hlen:(0:Int)<((((ze th q).map V.str).length:Nat):Int):=by
  have:=QZ.mpr aF;rw[wa];lia
 obtain⟨nm,G,en⟩:=z1q (i:=U) aF;have eG:=jn G;have nl:=cu nm G;intro ag A A3 sh hr;show(_,(zc (seT 2 jS (ixL (ixT v0 zd) (zq zU v1 (leN T.len (zp (ixT v0 zd) zb)))))
  (zc (yU (i:=3) jS.nd rfl (QO rfl) (kH wR qC qL yi (ixT v0 zd) (za v2 zb)))
  (zc (yb (j:=4) rfl jS.nd rfl (w0v rfl) (CompSc.of (sx:=zj z05) (NX:= ["_law_state","_law_seed","_law_name","_law_spot","_law_keys","_law_rows","_law_pair","_law_line"]) (fr:= ["_law_state","_law_spot"]) (ix:= [0,3]) rfl rfl ()) (jW rfl T.range (zK (leN T.len (zp (ixT v0 zd) zb)) zb)) (λk k k k k k=>jm) (λk k k k k k=>(zu (zp (yw (yF (K:=K) rfl) (yw (yF (K:=K) rfl) (yw (z0a (K:=K) rfl) v1 zd (λk k=>rfl)) v0 (λk k=>rfl)) v2 (λk k=>rfl)) (za v0 zb)))))
  (zc (seT 5 jS (zD zb))
  (zc (foR (zW (zM (z5p rfl) rfl T.sorted PyProof.Rows.boot_sorted (za v4 zb))) (gnM 6 jS)
   (zf (jb (apP v5 (zp (ixL (ixT v0 zd) (ixT (pv 6) zd)) zb)))))
  (zc (seT 7 jS (zq zo (zq zo (zq zo (zq zo zg v2) zg) (ixT v0 zd)) zg))
  (zf (zt (zu (zA (zu (zh zg (za v2 (zp (ixT v0 zd) zb)))) (za (pv 7) (zp (ixT v0 zd) (za v5 zb))))))))))))),?_)
 ac_rfl;show !(zi h1 jD (!(!(zi h1 jD (S,!(.inl (SqL.of y),~~~(hlen,zy y en ?_)))))));show !(zi h1 jD (.inl (rfl,_,SqL.of y),!(S,_,_,(ze th q).idxOf nm,rfl,rfl,SqL.of y,rfl,zY _,eG.1,eG.2,?_)));have sl:∀r∈rs,(ze th q).idxOf nm<r.2.length:=λr m=>by
  rw[Y.e r m];show qF.mpr G
 generalize aD:(ze th q).idxOf nm=sp at sl;show !(zi h1 z1p (rp,!(.inl (SqL.of B.1),!(∅,by rw[J];lia,?_))));show z0g (lo:=0) (n:=(((refs rs).length:Nat):Int).toNat) (λi ys H'=>zw H H'/\∃ps:List PQ,ys=(ps.map λp=>V.ref p.1)/\ps.length=i/\(∀p∈ps,H' p.1=AA (.tup [.int p.2.1,.int p.2.2]))/\∀(m:Nat)(hm:m<ps.length),ps[m].2=((rs.getD m (0,[])).2.getD sp 0,(m:Int))) (zw.refl _,[],rfl,rfl,λk z=>(by cases z),λm hm=>absurd hm (w1v _)) ?_ ?_ ?_
 .rintro i ys H' hi ⟨o,ps,rfl,t,_,_⟩;rw[Int.toNat_natCast,J]at hi;show zH (by rw[wa];lia)
 .rintro i ys H' hi ⟨o,ps,rfl,t,C,M⟩;rw[Int.toNat_natCast,J]at hi;have bC:=o _ _ (B.2 _ (wz hi)).2;show !(zi (o _ _ h1) z1p (!(zy (o _ _ B.1) (z6z hi) (!(zy bC (zZ (int_at (sl _ (wz hi)))) (!((yx rfl),λtp aS=>?_)))))));have s:=zE aS (.tup [V.int (rs[i].2.getD sp 0),V.int (0+(i:Int))]);show(o.trans s,ps++[(tp,rs[i].2.getD sp 0,0+(i:Int))],by simp,by rw[wg,t];rfl,λr m=>?_,λm hm=>?_)
  .rcases wA.mp m with m|m
   .exact s _ _ (C r m)
   .rw [wm.mp m];show zm
  .rw [wg,wZ]at hm;by_cases ig:m<ps.length
   .rw [List.getElem_append_left ig];show M m ig
   .have em:m=ps.length:=by lia
    subst em;rw[List.getElem_append_right (wy _)];simp only[Nat.sub_self,List.getElem_cons_zero];rw[t,wx (l:=rs),wb hi,w0G]
    rfl
 .rintro ys H' ⟨o,ps,rfl,t,C,M⟩ kp nv;rw[Int.toNat_natCast,J]at t;clear kp nv H1 s x1 kp;have Z:=o.trans s;clear wp de H2 n2 x2;have s2:=Z.trans n2;have lZ:H wp=none:=Z.free de;show !(kp,ps,rfl,SqL.of (n2 _ _ x1),λp m=>n2 _ _ (s _ _ (C p m)),∅,λdp b eX pm pw=>?_);have eY:dp≠wp:=(zr x2 eX).symm;clear dp eX H3 n3 x3 dp;rw[t]at pm pw;have mem:=pw;have pk:∀i,i<rs.length->(ps.getD i pq0).2=((rs.getD i (0,[])).2.getD sp 0,(i:Int)):=λi hi=>by
   rw[wx,wb ∅];show M i ∅
  have s3:=s2.trans n3;show(dp,rfl,(_,SqL.of x3),z1s (K:=K) (a:=dp) (xs:=b.map λi=>V.ref (ps.getD i pq0).1) (λi σ H'=>∃R:Option V,σ= [AA (.ref p),AA (.int U),AA (.str nm),AA (.int ((sp:Nat):Int)),AA (.ref kp),AA (.ref wp),R,AB]/\zw H H'/\H' dp=AA (.lst (b.map λi=>V.ref (ps.getD i pq0).1))/\(∀p∈ps,H' p.1=AA (.tup [.int p.2.1,.int p.2.2]))/\
   RowsAt H' wp ((b.take i).map λi=>rs.getD i (0,[]))) (AB,rfl,s3,x3,λp m=>n3 _ _ (n2 _ _ (s _ _ (C p m))),yG (n3 _ _ x2)) (λi σ H' _ ⟨_,_,_,z,_⟩=>SqL.of z) ?_ ?_)
  .rintro i x σ H4 D hN _ hi ⟨R,rfl,c,X,I,d⟩;have O:i<b.length:=by
    have:=(we.mp hi).1
    rwa [wa]at this
   rw[wK,wb O]at hi;cases hi;have u:=mem _ (wz O);have mp:ps.getD b[i] pq0∈ps:=by
    rw[wx,wb ∅];show wz _
   have ek:=pk _ u;have e2:(ps.getD b[i] pq0).2.2=((b[i]:Nat):Int):=by rw[ek]
   have j4:=B.same c;have eg:rs.getD b[i] (0,[])=rs[b[i]]:=by rw[wx,wb u];rfl
   show !(.inl (rfl,_,SqL.of d.1),!(zi (c _ _ h1) z1p (!(zi (I _ mp) jc (rp,_,_,V.ref rs[b[i]].1,rfl,rfl,SqL.of j4.1,by rw[e2];show zZ (y7 u),wp,~~~(d.1,zH (by rw[wa,wa,qi,pm];lia),?_))))));show hN _ _ (!(c.put lZ,by rw[zn eY];show X,λq' m=>by rw[zn (z3K (I q' m) d.1 (by intro z;cases z))];show I q' m,?_));rw[qA,wb O,wT];have rr:=(j4.2 _ (wz u));have xQ:rs[b[i]].1≠wp:=λz=>by
    have:=(B.2 _ (wz u)).2;rw[z,lZ]at this;cases this
   have:=d.push (q:=rs[b[i]].1) (x:=rs[b[i]].2) xQ rr.2
   change RowsAt _ wp (_++[rs.getD b[i] (0,[])])
   rw[eg];show this
  .rintro σ H4 ⟨R,rfl,c,X,I,d⟩;rw[wa,qP]at d;show !(~~~(⟨⟩,~~~(⟨⟩,!(zi (c _ _ h1) jc (~~~(⟨⟩,~~~(⟨⟩,?_)))))));show !(!(zi (c _ _ h1) zL ?_));clear qp dN H5 n5 x5;show !(!(zi (n5 _ _ (c _ _ h1)) jD (!?_)));clear sp' hsp' H6 n6 x6;have iG:=n5.trans n6;have L:=c.trans iG;show fin _ nm _ L (sp',_,S,wp,_,rfl,x6,(qp,qv,rfl,n6 _ _ x5,h2.same L),L _ _ y,d.same iG,⟨λr m=>by
    obtain⟨i,hi,rfl⟩:=Q0.mp m;rw[wx,wb (mem i hi)];show Y.e _ (wz _)⟩,by rw[wa,pm]) G
theorem za1{x:Int}:∀{xs:List Int},inV (.int x) (xs.map V.int)=decide (x∈xs)
 | []=>by simp[inV]
 | y::ys=>by
  have a:=za1 (x:=x) (xs:=ys);unfold inV at a ⊢;rw[qK,w1U,a]
  change((y == x)||decide (x∈ys))=_
  by_cases h:y=x
  .subst h;simp
  .rw [show(y == x)=false by simpa using h,Bool.false_or];by_cases m:x∈ys
   .simp [m]
   .have b:¬x=y:=λz=>h z.symm
    simp[m,b]
theorem zam(xs:List Int):(xs.map V.int).all yD=true:=by
 rw[List.all_map];show qU.mpr λv v=>rfl
inductive spCounted(K:W.Frag)(vs:List V)(H:Hp)(Q:VK)(E:XK):Prop
 | mk:∀th tr q v ae g N,vs= [v,.int ae,.str g]->TabOk th tr->StAt th H v q N->okQ th q->g.length=1->(zB q).length<=4000000->N<=60->(∀(v':V)(a b:Str)(H':Hp)(N':Nat),zw H H'->StAt th H' v' (.group a b (("n":Str)++g) (("s":Str)++g) q) N'->N'<=N->a∈ze th q->b∈ze th q->Q v' H')->spCounted K vs H Q E
theorem zX:FnScope ["_law_state","_law_seed","_law_sign","_law_by","_law_of","_law_spot","_law_place","_law_rows","_law_row","_law_same","_law_total","_law_names","_law_line","_law_question"] ["_law_state","_law_seed","_law_sign"] (zj yh):=by done
theorem z3U(F:Fun K "_law_counted" "_law_counted" yh f fd)(T:Txt K mg):-FnOk CX0 1 f fd ["_law_state","_law_seed","_law_sign"] (spCounted K):=by
 clear zX F;obtain⟨th,tr,q,v,ae,g,N,rfl,TT,aw,hok,gl,g6,fG,fin⟩:=h;obtain⟨p,qv,X,rp,rs,rfl,h1,h2,n,o,h5,rfl⟩:=aw;obtain⟨aF,nR⟩:=jx TT hok;have cu:=ja TT hok;have G:(refs rs).length=rs.length:=wa _;have hlen:(0:Int)<((((ze th q).map V.str).length:Nat):Int):=by
  have:=QZ.mpr aF;rw[wa];lia
 obtain⟨a,J,ea⟩:=z1q (i:=ae) aF;obtain⟨b,Y,eb⟩:=z1q (i:=ae/2) aF;have ia:=jn J;have ib:=jn Y;have la:=cu a J;have lb:=cu b Y;intro ag A A3 sh hr;show(_,(zc (seT 3 zX (ixL (ixT v0 zd) (zq zU v1 (leN T.len (zp (ixT v0 zd) zb)))))
  (zc (seT 4 zX (ixL (ixT v0 zd) (zq zU (zq ye v1 zd) (leN T.len (zp (ixT v0 zd) zb)))))
  (zc (yU (i:=5) zX.nd rfl (QO rfl) (kH wR qC qL yi (ixT v0 zd) (za v3 zb)))
  (zc (yU (i:=6) zX.nd rfl (QO rfl) (kH wR qC qL yi (ixT v0 zd) (za v4 zb)))
  (zc (seT 7 zX (zD zb))
  (zc (foR (zW (ixT v0 zd)) (z0E (i:=8) zX.nd rfl (QO rfl))
   (zf (zG (z0b kG (ixL (pv 8) v5) (jH rfl (CompSc.of (sx:=zj yh) (NX:= ["_law_state","_law_seed","_law_sign","_law_by","_law_of","_law_spot","_law_place","_law_rows","_law_row","_law_same","_law_total","_law_names","_law_line","_law_question"]) (fr:= []) (ix:= []) rfl rfl ()) (zW (pv 7)) (λk k k k k k=>jm) (λk k k k k k=>(yw (yF (K:=K) rfl) v0 zd (λk k=>rfl)))) (by with_unfolding_all rfl))
    (zc (yb (j:=9) rfl zX.nd rfl (w0v rfl) (CompSc.of (sx:=zj yh) (NX:= ["_law_state","_law_seed","_law_sign","_law_by","_law_of","_law_spot","_law_place","_law_rows","_law_row","_law_same","_law_total","_law_names","_law_line","_law_question"]) (fr:= ["_law_spot","_law_row"]) (ix:= [5,8]) rfl rfl ()) (zW (ixT v0 zd)) (λk k k k k k=>(z2o (cmT zO (yw (yF (K:=K) rfl) v0 v1 (λk k=>rfl)) (yw (yF (K:=K) rfl) v2 v1 (λk k=>rfl))))) (λk k k k k k=>v0))
    (zc (seT 10 zX (zM (z2a rfl) rfl T.sum w0H (z0z (jH rfl (CompSc.of (sx:=zj yh) (NX:= ["_law_state","_law_seed","_law_sign","_law_by","_law_of","_law_spot","_law_place","_law_rows","_law_row","_law_same","_law_total","_law_names","_law_line","_law_question"]) (fr:= ["_law_place"]) (ix:= [6]) rfl rfl ()) (zW (pv 9)) (λk k k k k k=>jm) (λk k k k k k=>(yw (yF (K:=K) rfl) v0 v1 (λk k=>rfl)))) zb)))
    (zf (jb (apP (pv 7) (jO (zD (zp (ixL (pv 8) v5) (zK (leN T.len (za (pv 9) zb)) (za (pv 10) zb)))) zb))))))
    zv)))
  (zc (seT 11 zX (zq zo (zq zo (zq zo (zq zo (zq zo (zq zo v3 zg) v4) zg) v2) zg) v2))
  (zc (seT 12 zX (zq zo (zq zo (zq zo (zq zo zg (pv 11)) zg) (ixT v0 zd)) zg))
  (zc (seT 13 zX (zu (zh zg (za v3 (za v4 (yp (zq zo zg v2) (yp (zq zo zg v2) (zp (ixT v0 zd) zb))))))))
  (zf (zt (zu (za (pv 13) (za (pv 12) (jO (zD (za v3 (yp (zq zo zg v2) (yp (zq zo zg v2) zb)))) (za (pv 7) zb)))))))))))))))),?_)
 ac_rfl;show !(zi h1 jD (!(!(zi h1 jD (X,!(.inl (SqL.of n),~~~(hlen,zy n ea ?_)))))));show !(zi h1 jD (!(~~~(((),()),!(zi h1 jD (X,!(.inl (SqL.of n),~~~(hlen,zy n eb ?_))))))));show !(zi h1 jD (.inl (rfl,_,SqL.of n),!(X,_,_,(ze th q).idxOf a,rfl,rfl,SqL.of n,rfl,zY _,ia.1,ia.2,?_)));show !(zi h1 jD (.inl (rfl,_,SqL.of n),!(X,_,_,(ze th q).idxOf b,rfl,rfl,SqL.of n,rfl,zY _,ib.1,ib.2,?_)));have aX:∀r∈rs,r.2.length=(ze th q).length:=h5.e
 have pW:∀r∈rs,(ze th q).idxOf a<r.2.length:=λr m=>by rw[aX r m];show qF.mpr J
 have tU:∀r∈rs,(ze th q).idxOf b<r.2.length:=λr m=>by rw[aX r m];show qF.mpr Y
 generalize hsa:(ze th q).idxOf a=sa at pW;generalize hsb:(ze th q).idxOf b=M at tU;clear wp de H1 n1 x1;have EZ:∀r∈rs,r.1≠wp:=λr m=>zr (o.2 r m).2 de
 show !(zi (n1 _ _ h1) z1p (rp,rfl,(_,SqL.of (n1 _ _ o.1)),z1s (K:=K) (a:=rp) (xs:=refs rs) (λi σ H'=>∃(c:List (AD×List Int))(o8 o9 pX:Option V),σ= [AA (.ref p),AA (.int ae),AA (.str g),AA (.str a),AA (.str b),AA (.int ((sa:Nat):Int)),AA (.int ((M:Nat):Int)),AA (.ref wp),o8,o9,pX,AB,AB,AB]/\zw H H'/\RowsAt H' wp c/\Wid 3 c/\c.length<=i) ([],AB,AB,AB,rfl,n1,yG x1,⟨λk z=>(by cases z)⟩,wy _) (λi σ H' _ ⟨_,_,_,_,_,sm,_⟩=>SqL.of (sm _ _ o.1)) ?_ ?_))
 .rintro i x σ H2 D hN _ hi ⟨c,o8,o9,pX,rfl,t,w2,s,O⟩;have y:i<rs.length:=by
   have:=(we.mp hi).1
   rwa [G]at this
  rw[y7 y]at hi;cases hi;have iI:(refs c).length=c.length:=wa _;have hR:=t _ _ (o.2 _ (wz y)).2;have pY:=pW _ (wz y);have q3:=s.e;show !(!(zy hR (zZ (int_at pY)) (!(wp,rfl,(_,SqL.of w2.1),?_))));show je (xs:=refs c) (λm ys H'=>H'=H2/\ys=((c.take m).map λr=>r.2.getD 0 0).map V.int) (rfl,rfl) ?_ ?_ ?_
  .rintro m ys C hm ⟨rfl,rfl⟩;show(SqL.of w2.1,zH (by rw[wa,wa,qi];lia))
  .rintro m x ys C hm ⟨rfl,rfl⟩;have R:m<c.length:=by
    have:=(we.mp hm).1
    rwa [iI]at this
   rw[y7 R]at hm;cases hm;show !(zy ((w2.2 _ (wz R)).2) (zZ (j:=0) (int_at (by rw[q3 _ (wz R)];decide))) (rfl,?_));rw[qA,wb R,wT,wT]
   rfl
  .rintro ys C ⟨rfl,rfl⟩ lp bA;rw[iI,qP];clear lp bA C n3 x3 lp;show(lp,!(.inl (SqL.of x3),rfl,zam _,!?_));rw[za1];have S:=t.trans n3;have w3:=w2.same n3;show yZ (λhb=>?_) (λhb=>?_)
   .have L:=o.same S;show !(zi (S _ _ h1) z1p (rp,rfl,(_,SqL.of L.1),?_));show z0I (xs:=refs rs) (λm ys H'=>∃fs,H'=C/\ys=refs fs/\Sub rs m fs) ([],rfl,rfl,.nil) ?_ ?_ ?_
    .rintro m ys u hm ⟨fs,rfl,rfl,d⟩;rw[G]at hm;show(SqL.of L.1,zH (by have:=d.l;rw[wa];lia))
    .rintro m x ys u hm ⟨fs,rfl,rfl,d⟩;have Z:m<rs.length:=by
      have:=(we.mp hm).1
      rwa [G]at this
     rw[y7 Z]at hm;cases hm;show !(!(zy ((L.2 _ (wz Z)).2) (zZ (int_at (pW _ (wz Z)))) (!(!(zy ((L.2 _ (wz y)).2) (zZ (int_at pY)) (rfl,!?_))))));show yZ (λhc=>?_) (λhc=>?_)
     .exact !(_,rfl,by simp[refs],d.on (wz Z))
     .exact(_,rfl,rfl,d.up (w0L _))
    .rintro ys u ⟨fs,rfl,rfl,d⟩ mp iJ;rw[G]at d;clear mp iJ u n4 x4 mp;have s4:=S.trans n4;have fl:=d.l;have fm:=d.m;have pZ:(refs fs).length=fs.length:=wa _;have j4:=o.same s4;show !(mp,rfl,(_,SqL.of x4),?_);show je (xs:=refs fs) (λm ys H'=>H'=u/\ys=((fs.take m).map λr=>r.2.getD M 0).map V.int) (rfl,rfl) ?_ ?_ ?_
     .rintro m ys U hm ⟨rfl,rfl⟩;show(SqL.of x4,zH (by rw[wa,wa,qi];lia))
     .rintro m x ys U hm ⟨rfl,rfl⟩;have r6:m<fs.length:=by
       have:=(we.mp hm).1
       rwa [pZ]at this
      rw[y7 r6]at hm;cases hm;have mr:=fm _ (wz r6);show !(!(zy ((j4.2 _ mr).2) (zZ (int_at (tU _ mr))) (rfl,?_)));rw[qA,wb r6,wT,wT]
      rfl
     .rintro ys U ⟨rfl,rfl⟩ tp aS;rw[pZ,qP];clear tp aS U n5 x5 tp;show(tp,!(SqL.of x5,?_));have I:=s4.trans n5;have w5:=w3.same (n4.trans n5);show !(.inl (rfl,_,SqL.of w5.1),!(!(zy (I _ _ (o.2 _ (wz y)).2) (zZ (int_at pY)) (!(mp,!(.inl (SqL.of (n5 _ _ x4)),!((yx rfl),λgp B=>?_)))))));have n6:=zE B (.lst [V.int (rs[i].2.getD sa 0),V.int (((refs fs).length:Nat):Int),V.int (fs.map λr=>r.2.getD M 0).sum]);have w6:=w5.same n6;show(wp,~~~(w6.1,zH (by rw[wa];lia),?_));have nq:gp≠wp:=(zr w5.1 B).symm;show hN _ _ (c++[(gp,[rs[i].2.getD sa 0,((fs.length:Nat):Int),(fs.map λr=>r.2.getD M 0).sum])],_,_,!((I.trans n6).put de,w6.push nq (by rw[zm,pZ];rfl),⟨λr m=>(wA.mp m).elim (s.e r) λz=>by rw[wm.mp z];rfl⟩,by rw[wg];show Nat.succ_le_succ O))
   .exact hN _ _ (c,_,_,!(S,w3,s,∅))
 .rintro σ H2 ⟨c,o8,o9,pX,rfl,t,w2,s,O⟩;rw[G]at O;have g1:=t _ _ h1;show !(~~~(⟨⟩,!(~~~(⟨⟩,~~~(⟨⟩,!(~~~(⟨⟩,~~~(⟨⟩,!(~~~(⟨⟩,?_))))))))));show !(~~~(⟨⟩,~~~(⟨⟩,!(zi g1 jc (~~~(⟨⟩,~~~(⟨⟩,?_)))))));show !(!(!(~~~(⟨⟩,!(~~~(⟨⟩,!(zi g1 zL ?_)))))));clear qp dN C n3 x3;show !(!(!(!(~~~(⟨⟩,!(~~~(⟨⟩,(yx rfl),λlp bA=>?_)))))));clear lp bA u n4 x4 lp;show !?_;clear sp aD U n5 x5;have lV:=n3.trans (n4.trans n5);have I:=t.trans lV;have el:(("(group ":Str)++(a ++ " " ++ b ++ " n" ++ g ++ " s" ++ g) ++ " " ++ zB q ++ ")":Str)=zB (.group a b (("n":Str)++g) (("s":Str)++g) q):=by
   simp only[zB];have e1:(" n":Str)=(" ":Str)++("n":Str):=by decide
   have s:(" s":Str)=(" ":Str)++("s":Str):=by decide
   rw[e1,s];simp only[Str.append_assoc]
  rw[el]at x5;show fin _ a b _ _ I (sp,_,lp,wp,c,rfl,x5,(qp,qv,rfl,n5 _ _ (n4 _ _ x3),h2.same I),n5 _ _ x4,w2.same lV,s,rfl) O J Y
noncomputable def zx:Qn->Nat
 | .table _=>1
 | .pick _ q | .cols _ q | .first _ q | .group _ _ _ _ q | .sort _ q=>zx q
 | .pair q r | .join _ _ q r | .both q r=>zx q+zx r
theorem yq(q:Qn):1<=zx q:=by induction q<;>simp only[zx]<;>lia
theorem zbH(T:TabOk th tr):∀n∈tabs,(tr n).length<=60:=by
 intro n hn;simp only[tabs,wF,qh,QE]at hn;rcases hn with rfl|rfl|rfl|rfl
 .exact T.ct
 .have:=T.cw;lia
 .have:=T.cx;lia
 .have:=T.cz;lia
structure Rt(th:Str->List Str)(n:Str)(r:Qn)(k:Nat):Prop where
 ok:okQ th r
 hd:ze th r=th n
 li:(zB r).length<=10+100*k
 dp:depth r<=1+2*k
 sub:bd r=60
 lv:zx r=1
structure Un2(th:Str->List Str)(q:Qn)(n:Str)(q':Qn):Prop where
 ok:okQ th q'
 hd:ze th q'=ze th q++th n\/ze th q'=th n++ze th q
 li:(zB q').length<=(zB q).length+600
 dp:depth q'<=max (depth q) 5+2
 nt:∀m,q'≠ .table m
 sub:bd q'=bd q*60
 lv:zx q'=zx q+1
inductive spUnited(K:W.Frag)(vs:List V)(H:Hp)(Q:VK)(E:XK):Prop
 | mk:∀th tr q n v tv ae N,vs= [v,tv,.int ae]->TabOk th tr->StAt th H v q N->okQ th q->TabAt th tr H tv n->n∈tabs->(∀x∈ze th q,x∉th n)->(zB q).length<=4000000->N<=60->(tr n).length<=60->(ze th q).length<=1000->(th n).length<=1000->(∀(v':V)(q':Qn)(H':Hp)(N':Nat),zw H H'->StAt th H' v' q' N'->N'<=N*(tr n).length->Un2 th q n q'->Q v' H')->spUnited K vs H Q E
theorem zcO:∀n∈tabs,n.length<=10:=by decide
theorem z9t{r:List Int}(h:s∈hs)(hl:r.length=hs.length):hs.idxOf s<r.length:=by rw[hl];show qF.mpr h
inductive UnJ(th:Str->List Str)(v:V)(tp:AD)(ae:Int)(q:Qn)(n:Str)(M:Nat)(H4:Hp)(σ:St)(H5:Hp):Prop
 | mk:∀(lv wv:V)(ql qr:Qn)(N1 N2:Nat),σ= [AA v,AA (.ref tp),AA (.int ae),AA lv,AA wv,AB,AB,AB,AB,AB,AB,AB,AB,AB,AB,AB]->H5=H4->StAt th H4 lv ql N1->StAt th H4 wv qr N2->okQ th ql->okQ th qr->(∀x∈ze th ql,x∉ze th qr)->(zB ql).length+(zB qr).length<=(zB q).length+300->N1*N2<=M->N1<=60->N2<=60->(ze th ql).length<=1000->(ze th qr).length<=1000->(ze th ql++ze th qr=ze th q++th n\/ze th ql++ze th qr=th n++ze th q)->max (depth ql) (depth qr)<=max (depth q) 5->bd ql*bd qr=bd q*60->zx ql+zx qr=zx q+1->UnJ th v tp ae q n M H4 σ H5
theorem zC:FnScope ["_law_state","_law_table","_law_seed","_law_left","_law_right","_law_heads","_law_rows","_law_one","_law_two","_law_name","_law_other","_law_line","_law_question","_law_spot","_law_place","_law_same"] ["_law_state","_law_table","_law_seed"] (zj z08):=by done
theorem z4p(F:Fun K "_law_united" "_law_united" z08 f fd)(T:Txt K mg)(o:-Kn 1 "_law_sorted" ["_law_state","_law_seed"] (spSorted K))(p:-Kn 1 "_law_headed" ["_law_state","_law_seed"] (spHeaded K)):-FnOk CX0 2 f fd ["_law_state","_law_table","_law_seed"] (spUnited K):=by
 clear zC F;obtain⟨th,tr,q,n,v,tv,Y,N,rfl,TT,aw,hok,ht,mn,dj,g6,fG,tT,gQ,tV,fin⟩:=(h);obtain⟨tp,nU,lW,ts,rfl,t1,t3,t4,t5⟩:=(ht);have nl:=zcO n mn;intro ag A A3 sh hr;have hu:=z3O hr;show(_,(zc (seT 3 zC v0)
  (zc (seT 4 zC (zu (zA (zu (zh zg (zp (ixT v1 zd) zb))) (zp (ixT v1 zd) (zp (ixT v1 zd) (zp (ixT v1 zd) zb))))))
  (zc (kP (cmT zO (zq zU v2 zd) zd)
   (zf (seT 4 zC (jd o hr.m (za v4 (yp (zq ye v2 zd) zb)))))
   zv)
  (zc (kP (cmT zO (zq zU v2 zd) zd)
   (zf (seT 4 zC (jd p hr.m (za v4 (zh zd zb)))))
   zv)
  (zc (kP (cmT zO (zq zU (zq ye v2 zd) zd) zd)
   (zc (seT 3 zC v4)
   (zf (seT 4 zC v0)))
   zv)
  (zc (seT 5 zC (zq ju (ixT v3 zd) (ixT v4 zd)))
  (zc (seT 6 zC (zD zb))
  (zc (foR (zW (ixT v3 zd)) (gnM 7 zC)
   (zf (foR (zW (ixT v4 zd)) (gnM 8 zC)
    (zf (jb (apP (pv 6) (yp (zq ju (pv 7) (pv 8)) zb)))))))
  (zc (seT 9 zC (ixL (ixT v3 zd) (zq zU (zq ye v2 zd) (leN T.len (zp (ixT v3 zd) zb)))))
  (zc (seT 10 zC (ixL (ixT v4 zd) (zq zU (zq ye v2 zd) (leN T.len (zp (ixT v4 zd) zb)))))
  (zc (seT 11 zC (zq zo (zq zo (zq zo (zq zo zg (ixT v3 zd)) zg) (ixT v4 zd)) zg))
  (zc (seT 12 zC (zu (zh zg (zp (ixT v3 zd) (zp (ixT v4 zd) zb)))))
  (zc (zG (cmT zO (zq zU v2 zd) zd)
   (zf (zt (zu (za (pv 12) (za (pv 11) (za v5 (za (pv 6) zb)))))))
   zv)
  (zc (yU (i:=13) zC.nd rfl (QO rfl) (kH wR qC qL yi v5 (za (pv 9) zb)))
  (zc (yU (i:=14) zC.nd rfl (QO rfl) (kH wR qC qL yi v5 (za (pv 10) zb)))
  (zc (yb (j:=15) rfl zC.nd rfl (w0v rfl) (CompSc.of (sx:=zj z08) (NX:= ["_law_state","_law_table","_law_seed","_law_left","_law_right","_law_heads","_law_rows","_law_one","_law_two","_law_name","_law_other","_law_line","_law_question","_law_spot","_law_place","_law_same"]) (fr:= ["_law_spot","_law_place"]) (ix:= [13,14]) rfl rfl ()) (zW (pv 6)) (λk k k k k k=>(z2o (cmT zO (yw (yF (K:=K) rfl) v0 v1 (λk k=>rfl)) (yw (yF (K:=K) rfl) v0 v2 (λk k=>rfl))))) (λk k k k k k=>v0))
  (zc (zG (z3k (cmT (z7P hu) (pv 15) (zD zb)) (cmT z6b (zq zU v2 zd) zd))
   (zf (zt (zu (za (pv 12) (za (pv 11) (za v5 (za (pv 6) zb)))))))
   zv)
  (zc (seT 6 zC (pv 15))
  (zc (kP (cmT zO (zq zU v2 zd) zd)
   (zc (seT 11 zC (zq zo (zq zo (zq zo (zq zo (zq zo (zq zo (zq zo (zq zo zg (pv 9)) zg) (pv 10)) zg) (ixT v3 zd)) zg) (ixT v4 zd)) zg))
   (zf (seT 12 zC (zu (zh zg (za (pv 9) (za (pv 10) (zp (ixT v3 zd) (zp (ixT v4 zd) zb)))))))))
   (zf (zG (cmT zO (zq zU v2 zd) zd)
    (zc (seT 11 zC (zq zo (zq zo (zq zo (zq zo (zq zo (zq zo zg (pv 10)) zg) (pv 9)) zg) (pv 11)) zg))
    (zf (seT 12 zC (zu (zh zg (zA (zu (zh zg (za (pv 10) (za (pv 9) zb)))) (za (pv 12) zb)))))))
    (zc (seT 11 zC (zq zo (zq zo (zq zo (zq zo (zq zo (zq zo zg (pv 9)) zg) (pv 10)) zg) (pv 11)) zg))
    (zf (seT 12 zC (zu (zh zg (zA (zu (zh zg (za (pv 9) (za (pv 10) zb)))) (za (pv 12) zb))))))))))
  (zf (zt (zu (za (pv 12) (za (pv 11) (za v5 (za (pv 6) zb)))))))))))))))))))))))))),?_)
 ac_rfl;show !?_;show !(zi t1 zL ?_);clear qp dN H1 n1 x1;have eJ:=n1 _ _ t1;show !(zi eJ zL (!(zi eJ jc (!(zi eJ jD ?_)))));clear sp0 hsp0 H2 n2 x2;have s2:=n1.trans n2;have aB:StAt th H2 (.ref sp0) (.table n) (tr n).length:=(sp0,_,nU,lW,ts,rfl,x2,(qp,rfl,n2 _ _ x1),s2 _ _ t3,t4.same s2,z6E TT mn t5,by rw[<-t5,wa]);have iK:Rt th n (.table n) 0:=(mn,rfl,nl,wy _,rfl,rfl);show exJ (λσ H3=>∃(rv:V)(r:Qn)(N2:Nat),σ= [AA v,AA (.ref tp),AA (.int Y),AA v,AA rv,AB,AB,AB,AB,AB,AB,AB,AB,AB,AB,AB]/\zw H H3/\StAt th H3 rv r N2/\N2<=(tr n).length/\Rt th n r 1) (λJ B=>?_) ?_
 .refine !(~~~((by change(0:Int)<7;decide),rfl,!?_));show yZ (λZ=>?_) (λZ=>?_)
  .refine !(!(~~~(((),()),th,tr,.table n,_,_,_,rfl,TT,aB,mn,by have:(zB (.table n)).length<=10:=nl;lia,tT,λv' a H' s' ad ma=>?_)));show B _ _ (v',_,_,rfl,s2.trans s',ad,wy _,(ma,mn),rfl,?_,by change 1+1<=1+2*1;decide,rfl,rfl);have la:=z5J TT n mn a ma;simp only[zB]
   (walk_at "sl")
  .exact B _ _ (_,_,_,rfl,s2,aB,wy _,iK.ok,iK.hd,by have:=iK.li;lia,by have:=iK.dp;lia,iK.sub,iK.lv)
 intro σ H3 zz;obtain⟨rv,r,N3,rfl,s3,aq,tW,s⟩:=(zz);show exJ (λσ H4=>∃(rv:V)(r:Qn)(N2:Nat),σ= [AA v,AA (.ref tp),AA (.int Y),AA v,AA rv,AB,AB,AB,AB,AB,AB,AB,AB,AB,AB,AB]/\zw H H4/\StAt th H4 rv r N2/\N2<=(tr n).length/\Rt th n r 2) (λJ B=>?_) ?_
 .refine !(~~~((by change(0:Int)<7;decide),rfl,!?_));show yZ (λZ=>?_) (λZ=>?_)
  .refine !(th,r,_,_,_,rfl,aq,by have:=s.li;lia,λv' q' H' N' s' ad af aW=>?_);show B _ _ (v',q',_,rfl,s3.trans s',ad,wG af tW,?_);obtain⟨m,mm,aW⟩:=(aW);have lm:=(z0l m mm).1;have F1:=s.li;have F2:=s.dp;rcases aW with rfl|⟨m',fH,rfl⟩
   .refine((mm,s.ok),s.hd,?_,?_,s.sub,s.lv)
    .simp only [zB]
     (walk_at "sl")
    .show depth r+1<=_
     lia
   .have F5:=(z0l m' fH).1;show((fH,mm,s.ok),s.hd,?_,?_,s.sub,s.lv)
    .simp only [zB]
     (walk_at "sl")
    .show depth r+1+1<=_
     lia
  .exact B _ _ (_,_,_,rfl,s3,aq,tW,s.ok,s.hd,by have:=s.li;lia,by have:=s.dp;lia,s.sub,s.lv)
 clear aq s;intro σ H4 zz;obtain⟨rv,r,N4,rfl,s4,b7,tX,u⟩:=(zz);have F6:=u.li;have F7:=u.dp;have tY:∀x∈ze th q,x∉ze th r:=by rw[u.hd];show dj
 have m4:=aw.same s4;have F8:(zB r).length<=300:=by lia
 show exJ (UnJ th v tp Y q n (N*(tr n).length) H4) (λJ B=>?_) ?_
 .refine !(~~~(((),()),~~~((by change(0:Int)<2;decide),rfl,!?_)));show yZ (λZ=>?_) (λZ=>?_)
  .refine !?_;show !?_;show B _ _ (_,_,r,q,_,_,rfl,rfl,b7,m4,u.ok,hok,λx hx hy=>tY x hy hx,∅,?_,∅,fG,by rw[u.hd];show tV,gQ,.inr (by rw[u.hd]),∅,by rw[u.sub,Nat.mul_comm],by rw[u.lv,Nat.add_comm]);rw[Nat.mul_comm];show w0y _ tX
  .exact B _ _ (_,_,q,r,_,_,rfl,rfl,m4,b7,hok,u.ok,tY,∅,w0y _ tX,fG,∅,gQ,by rw[u.hd];show tV,.inl (by rw[u.hd]),∅,by rw[u.sub],by rw[u.lv])
 intro σ H5 zz;obtain⟨lv,wv,c,d,N1,N2,rfl,rfl,xR,str,nY,gU,tZ,F9,xS,xT,xU,iL,bF,iD,Fa,r9,ra⟩:=(zz);have u4:=jx TT nY;have u5:=jx TT gU;have xV:=ja TT nY;have xW:=ja TT gU;obtain⟨p1,iH,ba,dM,R,rfl,a1,a2,a3,a4,w1,rfl⟩:=(xR);obtain⟨p2,bT,bt,dO,M,rfl,b1,b2,b3,b4,w2,rfl⟩:=(str);have m6:(refs R).length=R.length:=wa _;have m7:(refs M).length=M.length:=wa _;show !(zi a1 jD (!(zi b1 jD (_,_,~~~(a3,b3,zR (by rw[wa,wa];lia),λL cr=>?_)))));rw[<-wT];clear L cr H6 n6 x6 L;clear wp de H7 n7 x7;have nZ:=n6.trans n7;have f5:H5 wp=none:=n6.free de;show !(zi (nZ _ _ a1) z1p (dM,rfl,(_,SqL.of (nZ _ _ a4.1)),z1s (K:=K) (a:=dM) (xs:=refs R) (λi σ H'=>∃(ds:List (AD×List Int))(o7 U:Option V),σ= [AA v,AA (.ref tp),AA (.int Y),AA (.ref p1),AA (.ref p2),AA (.ref L),AA (.ref wp),o7,U,AB,AB,AB,AB,AB,AB,AB]/\zw H6 H'/\RowsAt H' wp ds/\
  Wid (ze th c++ze th d).length ds/\ds.length<=i*M.length/\i<=R.length) ([],AB,AB,rfl,n7,yG x7,⟨λk z=>(by cases z)⟩,qN _,qN _) (λi σ H' _ ⟨_,_,_,_,sm,_⟩=>SqL.of (sm _ _ (n6 _ _ a4.1))) ?_ ?_))
 .rintro i x σ H8 D hN _ hi ⟨ds,o7,U,rfl,s8,hd,X,ld,_⟩;have S:i<R.length:=by
   have:=(we.mp hi).1
   rwa [m6]at this
  rw[y7 S]at hi;cases hi;have G:=n6.trans s8;show !(zi (G _ _ b1) z1p (dO,rfl,(_,SqL.of (G _ _ b4.1)),z1s (K:=K) (a:=dO) (xs:=refs M) (λj σ H'=>∃(ds:List (AD×List Int))(U:Option V),σ= [AA v,AA (.ref tp),AA (.int Y),AA (.ref p1),AA (.ref p2),AA (.ref L),AA (.ref wp),AA (.ref R[i].1),U,AB,AB,AB,AB,AB,AB,AB]/\zw H6 H'/\RowsAt H' wp ds/\
   Wid (ze th c++ze th d).length ds/\ds.length<=i*M.length+j) (ds,U,rfl,s8,hd,X,∅) (λj σ H' _ ⟨_,_,_,sm,_⟩=>SqL.of (sm _ _ (n6 _ _ b4.1))) ?_ ?_))
  .rintro j y σ H9 D2 hM _ hj ⟨ds,U,rfl,s9,hd,X,ld⟩;have bV:j<M.length:=by
    have:=(we.mp hj).1
    rwa [m7]at this
   rw[y7 bV]at hj;cases hj;have fI:=n6.trans s9;have hR:=fI _ _ (a4.2 _ (wz S)).2;have hO:=fI _ _ (b4.2 _ (wz bV)).2;have rb:=w1.e _ (wz S);have cM:=w2.e _ (wz bV);have hm:i*M.length<=60*60:=Qk ∅ ∅;show !(.inl (rfl,_,SqL.of hd.1),!(!(_,_,~~~(hR,hO,zR (by rw[wa,wa];lia),λq1 ac=>?_))));have nn:=zE ac (.lst (R[i].2.map V.int++M[j].2.map V.int));have df:=hd.same nn;show(wp,~~~(df.1,zH (by rw[wa];lia),?_));have nq:q1≠wp:=(zr hd.1 ac).symm;show hM _ _ (ds++[(q1,R[i].2++M[j].2)],!((s9.trans nn).put de,df.push nq (by rw[zm,wT]),⟨λr m=>(wA.mp m).elim (X.e r) λz=>by rw[wm.mp z];change(_++_:List Int).length=_;rw[wg,wg,rb,cM]⟩,by rw[wg,wZ];lia))
  .rintro σ H9 ⟨ds,U,rfl,s9,hd,X,ld⟩;show hN _ _ (ds,_,!(s9,hd,X,by rw[m7]at ld;rw[w00,w1w];show ld,S))
 intro σ H8 zz;obtain⟨ds,o7,U,rfl,s8,hd,X,ld,_⟩:=(zz);rw[m6]at ld;have G:=n6.trans s8;have Fb:=s4.trans G;have x8:=s8 _ _ x6;have a8:=G _ _ a1;have b8:=G _ _ b1;have m8:(0:Int)<((((ze th c).map V.str).length:Nat):Int):=by
  have:=QZ.mpr u4.1;rw[wa];lia
 have m9:(0:Int)<((((ze th d).map V.str).length:Nat):Int):=by
  have:=QZ.mpr u5.1;rw[wa];lia
 obtain⟨a,ma,ea⟩:=(z1q (i:=Y/8) u4.1);obtain⟨b,mb,eb⟩:=(z1q (i:=Y/2) u5.1);have la:=xV a ma;have lb:=xW b mb;show !(zi a8 jD (!(~~~(((),()),!(zi a8 jD (ba,!(.inl (SqL.of (G _ _ a3)),~~~(m8,zy (G _ _ a3) ea ?_))))))));show !(zi b8 jD (!(~~~(((),()),!(zi b8 jD (bt,!(.inl (SqL.of (G _ _ b3)),~~~(m9,zy (G _ _ b3) eb ?_))))))));show !(zi a8 jc (~~~(⟨⟩,~~~(⟨⟩,!(zi b8 jc (~~~(⟨⟩,~~~(⟨⟩,?_))))))));show !(zi a8 zL (!(zi b8 zL ?_)));clear pp re H9 n9 x9;have fI:=G.trans n9;have rf:QAt H9 (.pair c d) (.ref pp):=(pp,iH,bT,rfl,x9,a2.same fI,b2.same fI);have md:=hd.same n9;have xX:(zB (.pair c d)).length<=(zB q).length+310:=by simp only[zB];(walk_at "sl")
 have mf:ds.length<=N*(tr n).length:=wG ld xS;have u6:okQ th (.pair c d):=(tZ,nY,gU);have Fc:depth (.pair c d)<=max (depth q) 5+1:=by change max _ _+1<=_;lia
 have xY:Un2 th q n (.pair c d):=(u6,iD,∅,∅,λk=>nofun,r9,ra);have xZ:=X.e;have hm:R.length*M.length<=60*60:=Qk xT xU;have Fd:ds.length<=1000000:=by lia
 have rg:(refs ds).length=ds.length:=wa _;have u7:a∈ze th c++ze th d:=qj _ ma;have u8:b∈ze th c++ze th d:=wE _ mb;have u9:=s4.trans fI;have asPair:∀(σ:St){I:Hp},zw H9 I->∀sp,I sp=AB->Q (.ref sp) (upd I sp (.tup [.ref pp,.str (zB (.pair c d)),.ref L,.ref wp])):=λσ I nW sp aD=>by
  have gW:=zE aD (.tup [.ref pp,.str (zB (.pair c d)),.ref L,.ref wp]);have C:=nW.trans gW;show fin _ (.pair c d) _ _ (u9.trans C) (sp,_,L,wp,ds,rfl,zm,rf.same C,C _ _ (n9 _ _ x8),md.same C,X,rfl) mf xY
 show !(~~~((by change(0:Int)<4;decide),rfl,!?_));show yZ (λZ=>?_) (λZ=>?_)
 .exact !(!(!(!((yx rfl),λsp aD=>asPair [] (zw.refl _) sp aD))))
 have ia:=jn u7;have ib:=jn u8;have mh:=n9 _ _ x8;show !(.inl (rfl,_,SqL.of mh),!(L,_,_,(ze th c++ze th d).idxOf a,rfl,rfl,SqL.of mh,rfl,zY _,ia.1,ia.2,?_));show !(.inl (rfl,_,SqL.of mh),!(L,_,_,(ze th c++ze th d).idxOf b,rfl,rfl,SqL.of mh,rfl,zY _,ib.1,ib.2,?_));show !(wp,rfl,(_,SqL.of md.1),?_);show z0I (xs:=refs ds) (λi ys H'=>∃fs,H'=H9/\ys=refs fs/\Sub ds i fs) ([],rfl,rfl,.nil) ?_ ?_ ?_
 .rintro i ys H' hi ⟨fs,rfl,rfl,O⟩;rw[rg]at hi;show(SqL.of md.1,zH (by have:=O.l;rw[wa];lia))
 .rintro i x ys H' hi ⟨fs,rfl,rfl,O⟩;have S:i<ds.length:=by
   have:=(we.mp hi).1
   rwa [rg]at this
  rw[y7 S]at hi;cases hi;have bC:=(md.2 _ (wz S)).2;have wl:=xZ _ (wz S);show !(!(zy bC (zZ (int_at (z9t u7 wl))) (!(!(zy bC (zZ (int_at (z9t u8 wl))) (rfl,!?_))))));show yZ (λhc=>?_) (λhc=>?_)
  .exact !(_,rfl,by simp[refs],O.on (wz S))
  .exact(_,rfl,rfl,O.up (w0L _))
 rintro ys H' ⟨fs,rfl,rfl,O⟩ np ax;rw[rg]at O;clear np ax I eL x10 np;have rc:=ym ax eL x10 λr m=>(md.2 r (O.m r m)).2
 show !?_;clear ep hep H11 gW x11;show(np,ep,!(rfl,SqL.of (gW _ _ x10),SqL.of x11,!(_,(!(~~~((by change(0:Int)<5;decide),~~~(!(rfl,rfl))))),?_)));have C:=eL.trans gW;show yZ (λft=>?_) (λft=>?_)
 .exact !(!(!(!((yx rfl),λsp aD=>asPair [] C sp aD))))
 show !?_;have ua:=C _ _ (n9 _ _ a8);have ub:=C _ _ (n9 _ _ b8);have rj:=fI.trans C;show exJ (λσ t=>∃(qv:V)(q':Qn),σ= [AA v,AA (.ref tp),AA (.int Y),AA (.ref p1),AA (.ref p2),AA (.ref L),AA (.ref np),o7,U,AA (.str a),AA (.str b),AA (.str (zB q')),AA qv,AA (.int (((ze th c++ze th d).idxOf a:Nat):Int)),AA (.int (((ze th c++ze th d).idxOf b:Nat):Int)),AA (.ref np)]/\zw H11 t/\QAt t q' qv/\ze th q'=ze th c++ze th d/\Un2 th q n q') (λJ B=>?_) ?_
 .refine !(~~~((by change(0:Int)<4;decide),rfl,!?_));show yZ (λhc=>?_) (λhc=>?_)
  .refine !(~~~(⟨⟩,~~~(⟨⟩,!(~~~(⟨⟩,~~~(⟨⟩,!(zi ua jc (~~~(⟨⟩,~~~(⟨⟩,!(zi ub jc (~~~(⟨⟩,~~~(⟨⟩,?_))))))))))))));show !(!(!(zi ua zL (!(zi ub zL ?_)))));clear jp fX t n12 x12;have mi:=rj.trans n12;show B _ _ (_,.join a b c d,rfl,n12,(jp,iH,bT,rfl,x12,a2.same mi,b2.same mi),rfl,(ma,mb,tZ,nY,gU),iD,?_,?_,λk=>nofun,r9,ra)
   .simp only [zB];(walk_at "sl")
   .show max _ _+1<=_;lia
  .refine !(~~~((by change(0:Int)<4;decide),rfl,!?_));have mk:∀{x y:Str} (gT:(x=b/\y=a)\/(x=a/\y=b)),Un2 th q n (.pick (.same (.nm x) (.nm y)) (.pair c d)):=λ{x y} gT=>by
    have mx:x∈ze th c++ze th d:=by rcases gT with⟨rfl,rfl⟩|⟨rfl,rfl⟩<;>assumption
    have my:y∈ze th c++ze th d:=by rcases gT with⟨rfl,rfl⟩|⟨rfl,rfl⟩<;>assumption
    have lx:x.length<=10:=by rcases gT with⟨rfl,rfl⟩|⟨rfl,rfl⟩<;>assumption
    have ly:y.length<=10:=by rcases gT with⟨rfl,rfl⟩|⟨rfl,rfl⟩<;>assumption
    show(((mx,my),by simp[Cond.size],u6),iD,?_,?_,λk=>nofun,r9,ra)
    .simp only [zB,yt,ends,Side.txt];simp only[zB]at xX;(walk_at "sl")
    .show depth (.pair c d)+1<=_;lia
   have line:∀x y:Str,("(pick (same " ++ x ++ " " ++ y ++ ") " ++ zB (.pair c d) ++ ")":Str)=zB (.pick (.same (.nm x) (.nm y)) (.pair c d)):=λx y=>by
    have e:zB (.pick (.same (.nm x) (.nm y)) (.pair c d))=("(pick ":Str)++("(" ++ "same" ++ " " ++ (x ++ " " ++ y) ++ ")") ++ " " ++ zB (.pair c d) ++ ")":=rfl;rw[e];have e1:("(pick (same ":Str)=("(pick ":Str)++("(" ++ "same" ++ " "):=by decide
    have e2:(") ":Str)=(")":Str) ++ " ":=by decide
    rw[e1,e2];simp only[Str.append_assoc]
   have A0:(zB (.pair c d)).length<=4000310:=by lia
   show yZ (λcW=>?_) (λcW=>?_)
   .refine !(~~~(⟨⟩,~~~(⟨⟩,!(~~~(⟨⟩,~~~(⟨⟩,!(_,zB (.pair c d),rfl,rfl,⟨⟩,~~~(⟨⟩,?_))))))));show !(!?_);clear cp bO t n12 x12;show !?_;clear jp fX H13 cN x13;show B _ _ (_,.pick (.same (.nm b) (.nm a)) (.pair c d),by rw[<-line];rfl,n12.trans cN,(jp,_,!(x13,(cp,rfl,cN _ _ x12),rf.same (C.trans (n12.trans cN)))),rfl,mk (.inl (rfl,rfl)))
   .refine !(~~~(⟨⟩,~~~(⟨⟩,!(~~~(⟨⟩,~~~(⟨⟩,!(_,zB (.pair c d),rfl,rfl,⟨⟩,~~~(⟨⟩,?_))))))));show !(!?_);clear cp bO t n12 x12;show !?_;clear jp fX H13 cN x13;show B _ _ (_,.pick (.same (.nm a) (.nm b)) (.pair c d),by rw[<-line];rfl,n12.trans cN,(jp,_,!(x13,(cp,rfl,cN _ _ x12),rf.same (C.trans (n12.trans cN)))),rfl,mk (.inr (rfl,rfl)))
 intro σ t zz;obtain⟨qv,q',rfl,uc,rk,eh,rm⟩:=(zz);show !(!(!(!?_)));clear sp aD H13 cN x13;have mj:=C.trans (uc.trans cN);show fin _ q' _ _ (u9.trans mj) (sp,qv,L,np,fs,rfl,x13,rk.same cN,by rw[eh];show mj _ _ mh,(rc.same gW).same (uc.trans cN),by rw[eh];show O.wid X,rfl) (wG O.l mf) rm
noncomputable def z1N(hs:List Str)(n:Str):List Str:=if n="tuvtuvtuvw" then z2J else if n="tuvtuvtuvx" then(["e"]:List Str)else hs
noncomputable def z3I(r0 r1 r2 r3:List (List Int))(n:Str):List (List Int):=if n="t" then r0 else if n="tuvtuvtuvw" then r1 else if n="tuvtuvtuvx" then r2 else r3
theorem tabs_ok{m:Nat}{r0 r1 r2 r3:List (List Int)}(c:2<=m)(f:m<=12)(l0:∀r∈r0,r.length=(jf.take m).length)(l1:∀r∈r1,r.length=2)(l2:∀r∈r2,r.length=1)(b:∀r∈r3,r.length=(jf.take m).length)(d:r0.length<=60)(h:r1.length<=10)(a:r2.length<=10)(e:r3.length=3):
  TabOk (z1N (jf.take m)) (z3I r0 r1 r2 r3) where
 t:=(m,c,f,by unfold z1N;rw[wW (),wW ()])
 w:=by unfold z1N;rw[qc rfl]
 x:=by unfold z1N;rw[wW (),qc rfl]
 z:=by unfold z1N;rw[wW (),wW (),wW (),wW ()]
 rl:=λn hn=>by
  simp only[tabs,wF,qh,QE]at hn;rcases hn with rfl|rfl|rfl|rfl
  .unfold z1N z3I;rw[qc rfl,wW (),wW ()];show l0
  .unfold z1N z3I;rw[wW (),qc rfl,qc rfl];show l1
  .unfold z1N z3I;rw[wW (),wW (),qc rfl,wW (),qc rfl];show l2
  .unfold z1N z3I;rw[wW (),wW (),wW (),wW (),wW ()];show b
 ct:=by unfold z3I;rw[qc rfl];show d
 cw:=by unfold z3I;rw[wW (),qc rfl];show h
 cx:=by unfold z3I;rw[wW (),wW (),qc rfl];show a
 cz:=by unfold z3I;rw[wW (),wW (),wW ()];show e
 zz:=by unfold z1N;rw[wW (),wW (),qi];show wG (Nat.min_le_right _ _) ()
inductive FourAt(th:Str->List Str)(tr:Str->List (List Int))(H:Hp)(p:AD):Prop
 | mk:∀v0 v1 v2 v3,H p=AA (.lst [v0,v1,v2,v3])->TabAt th tr H v0 "t"->TabAt th tr H v1 "tuvtuvtuvw"->TabAt th tr H v2 "tuvtuvtuvx"->TabAt th tr H v3 "tuvz"->FourAt th tr H p
theorem FourAt.same(h:FourAt th tr H p)(e:zw H H'):FourAt th tr H' p:=by
 obtain⟨v0,v1,v2,v3,h0,a,b,c,d⟩:=h;show(v0,v1,v2,v3,e _ _ h0,a.same e,b.same e,c.same e,d.same e)
inductive spStocked(K:W.Frag)(vs:List V)(H:Hp)(Q:VK)(E:XK):Prop
 | mk:∀cp (ns:List Int) more,vs= [.ref cp,.int more]->SqL K H cp (ns.map V.int)->ns.length<=18->0<=more->more<=48->(∀(p:AD)(th:Str->List Str)(tr:Str->List (List Int))(H':Hp),zw H H'->TabOk th tr->FourAt th tr H' p->Q (.ref p) H')->spStocked K vs H Q E
def z8f{t:TT}{Q:Bool->Hp->Prop}(els:Q false H)(h:Q false H->t σ H Q):t σ H Q:=h els
noncomputable def twM(t:Nat):Nat:=if t=0 then 1 else if t=1 then 2 else 4
structure Gr(th:Str->List Str)(tr:Str->List (List Int))(i used twice:Nat)(q:Qn):Prop where
 ok:okQ th q
 line:(zB q).length<=2400*(i+1)*twM twice
 heads:∀x∈ze th q,x∈z0e i used
 dp:depth q<=5+2*i
 sub:bd q<=60 ^ used*twM twice
 lv:zx q<=used*twM twice
 top:∀n,q= .table n->n="t":=by intro n e;cases e
theorem z3P{l:List α}{x:α}(h:x∈l.take i)(a:i<=j):x∈l.take j:=by
 have:l.take i=(l.take j).take i:=by rw[List.take_take,Nat.min_eq_left a]
 rw[this]at h;show QB h
theorem jB{x:Str}{u v:Nat}(h:x∈z0e i u)(a:i<=j)(b:u<=v):x∈z0e j v:=by
 unfold z0e at h ⊢;simp only[wA,Q0]at h ⊢;rcases h with(((h|h)|h)|⟨s,h,e⟩)|⟨s,h,e⟩
 .exact .inl (.inl (.inl (.inl h)))
 .refine .inl (.inl (.inl (.inr ?_)));split at h
  .rw [qc ∅];show h
  .cases h
 .refine .inl (.inl (.inr ?_));split at h
  .rw [qc ∅];show h
  .cases h
 .exact .inl (.inr (s,z3P h a,e))
 .exact .inr (s,z3P h a,e)
theorem zf6:∀x∈z2J,x∉z0e 26 1:=by decide
theorem zfg:∀x∈(["e"]:List Str),x∉z0e 26 2:=by decide
theorem zae:∀i:Fin 26,(("n":Str)++signs.getD i.1 "":Str)∉z0e i.1 3/\(("s":Str)++signs.getD i.1 "":Str)∉z0e i.1 3:=by decide
theorem z4O:(z0e 26 3).length<=100:=by decide
theorem wIn:∀x∈z2J,x∈z0e 0 2:=by decide
theorem eIn:∀x∈(["e"]:List Str),x∈z0e 0 3:=by decide
theorem lIn:∀x∈jf,x∈z0e 0 1:=by decide
noncomputable def zbE:Str:="abcdefghijklmnopqrstuvwxyz"
theorem zde:∀i:Fin 26,(zbE.cps.toList[i.1]?).map (λc=>(⟨#[c]⟩:Str))=AA (signs.getD i.1 ""):=by decide
theorem zbA:zbE.length<=sizeLine:=zR ()
theorem ze7(h:i<26):∃c,atI zbE.cps.toList (0+(i:Int))=AA c/\(⟨#[c]⟩:Str)=signs.getD i "":=by
 have:=zde (i,h);cases e:zbE.cps.toList[i]? with
 | none=>rw[e]at this;cases this
 | some c=>
  rw[e]at this;show(c,?_,Option.some.inj this);rw[w0G];show zZ e
theorem z3E(h:i<26):signs.getD i ""∈signs:=by
 rw[wx,wb (by change i<26;show h)];show wz _
theorem z64(h:i<26):signs.getD i ""∈signs.take (i+1):=by
 have hl:i<signs.length:=h;rw[wx,wb hl,qA,wb hl];show wE _ (wm.mpr rfl)
section
variable{used twice:Nat}
theorem yM(t:Nat):1<=twM t/\twM t<=4:=by unfold twM;split<;>(try split)<;>lia
theorem z03{a b m:Nat}(h:a<=2400*(i+1)*m)(hm:1<=m)(c:b<=a+2400):b<=2400*(i+1+1)*m:=by
 have:2400*(i+1+1)*m=2400*(i+1)*m+2400*m:=by rw[QC 2400 (i+1) 1,w00,w2h]
 lia
theorem Gr.big(g:Gr th tr i used twice q)(hi:i<=24):(zB q).length<=240000:=by
 have h:=g.line;have m:=(yM twice).2;have:2400*(i+1)*twM twice<=2400*25*4:=Qk (w0y _ ∅) m
 lia
def Gr.wide(T:TabOk th tr)(g:Gr th tr i used twice q)(hi:i<=26)(b:used<=3):(ze th q).length<=100:=
 wG (kA (jx T g.ok).2 λx a=>jB (g.heads x a) hi b) z4O
theorem Gr.pick(T:TabOk th tr)(g:Gr th tr i used twice q)(a:jz (ze th q) c)(sz:c.size<=6):Gr th tr (i+1) used twice (.pick c q) where
 ok:=(a,sz,g.ok)
 line:=z03 g.line (yM _).1 (by have:=z4I (ja T g.ok) a sz;lia)
 heads:=λx b=>jB (g.heads x b) ∅ (wy _)
 dp:=by have:=g.dp;change depth q+1<=_;lia
 sub:=g.sub
 lv:=g.lv
theorem Gr.cols(T:TabOk th tr)(g:Gr th tr i used twice q)(hi:i<=24)(b:used<=3)(ne:ns≠ [])(nd:ns.Nodup)(sub:∀n∈ns,n∈ze th q):Gr th tr (i+1) used twice (.cols ns q) where
 ok:=(ne,nd,sub,g.ok)
 line:=z03 g.line (yM _).1 (by
  have c:=z4k λn hn=>ja T g.ok n (sub n hn)
  have wl:=g.wide T ∅ b;have d:=kA nd sub;simp only[zB]
  (walk_at "sl"))
 heads:=λx a=>jB (g.heads x (sub x a)) ∅ (wy _)
 dp:=by have:=g.dp;change depth q+1<=_;lia
 sub:=g.sub
 lv:=g.lv
theorem Gr.sort(T:TabOk th tr)(g:Gr th tr i used twice q)(m:n∈ze th q):Gr th tr (i+1) used twice (.sort n q) where
 ok:=(m,g.ok)
 line:=z03 g.line (yM _).1 (by
  have:=ja T g.ok n m;simp only[zB]
  (walk_at "sl"))
 heads:=λx a=>jB (g.heads x a) ∅ (wy _)
 dp:=by have:=g.dp;change depth q+1<=_;lia
 sub:=g.sub
 lv:=g.lv
theorem Gr.first(g:Gr th tr i used twice q){n:Int}(m:n∈z0v):Gr th tr (i+1) used twice (.first n q) where
 ok:=(m,g.ok)
 line:=z03 g.line (yM _).1 (by
  have:=(z0l n m).1;simp only[zB]
  (walk_at "sl"))
 heads:=λx a=>jB (g.heads x a) ∅ (wy _)
 dp:=by have:=g.dp;change depth q+1<=_;lia
 sub:=g.sub
 lv:=g.lv
theorem Gr.firsts(g:Gr th tr i used twice q){n a:Int}(m:n∈z0v)(b:a∈z0v):Gr th tr (i+1) used twice (.first a (.first n q)) where
 ok:=(b,m,g.ok)
 line:=z03 g.line (yM _).1 (by
  have:=(z0l n m).1;have:=(z0l a b).1;simp only[zB]
  (walk_at "sl"))
 heads:=λx c=>jB (g.heads x c) ∅ (wy _)
 dp:=by have:=g.dp;change depth q+1+1<=_;lia
 sub:=g.sub
 lv:=g.lv
theorem Gr.group(T:TabOk th tr)(g:Gr th tr i used twice q)(hi:i<26)(j:used<=3){a b:Str}(c:a∈ze th q)(d:b∈ze th q):Gr th tr (i+1) used twice (.group a b (("n":Str)++signs.getD i "") (("s":Str)++signs.getD i "") q) where
 ok:=by
  have ps:=zae (i,hi);have e:a∈z0e i 3:=jB (g.heads a c) (wy _) j;show(c,d,(_,z3E hi,rfl,rfl),λz=>ps.1 (z ▸ e),λz=>ps.2 (z ▸ e),g.ok)
 line:=z03 g.line (yM _).1 (by
  have:=ja T g.ok a c;have:=ja T g.ok b d;have:=z2W _ (z3E hi);simp only[zB]
  (walk_at "sl"))
 heads:=λx h=>by
  have f:x∈ [a,(("n":Str)++signs.getD i "":Str),(("s":Str)++signs.getD i "":Str)]:=h;simp only[wF,qh,QE]at f;rcases f with rfl|rfl|rfl
  .exact jB (g.heads _ c) ∅ (wy _)
  .unfold z0e;show qj _ (wE _ (Q0.mpr (_,z64 hi,rfl)))
  .unfold z0e;show wE _ (Q0.mpr (_,z64 hi,rfl))
 dp:=by have:=g.dp;change depth q+1<=_;lia
 sub:=g.sub
 lv:=g.lv
theorem z61{a b c m d:Nat}(h1:a<=2400*(i+1)*m)(f:b<=a+1000)(hc:c<=a+b+100)(hm:1<=m)(h2:d=2*m):c<=2400*(i+1+1)*d:=by
 have e:2400*(i+1+1)*d=2*(2400*(i+1)*m)+2*(2400*m):=by
  rw[h2,QC 2400 (i+1) 1,w00,w2h,w19 (2400*(i+1)) 2 m,w19 2400 2 m]
 lia
set_option tactic.hygienic true in
theorem zgI(q:Qn):60<=bd q:=by
 induction q<;>simp only[bd]<;>first|lia|(rename_i h1 h2;show wG (by decide:60<=60*60) (Qk h1 h2))|assumption
theorem Gr.both(T:TabOk th tr)(g:Gr th tr i used twice q)(ht:twice<2)(c:okQ th r)(b:ze th r=ze th q)(d:(zB r).length<=(zB q).length+1000)(h:depth r<=depth q+1)(j:bd r<=bd q)(rl:zx r<=zx q)(e:q'= .both q r\/q'= .both r q):Gr th tr (i+1) used (twice+1) q':=by
 have hm:twM (twice+1)=2*twM twice:=by
  have:twice=0\/twice=1:=by lia
  rcases this with rfl|rfl<;>rfl
 have f:=g.dp;have lv:∀{z:Qn},z= .both q r\/z= .both r q->zx z<=used*twM (twice+1):=λ{z} e=>by
  have:=g.lv;rw[hm,w19];rcases e with rfl|rfl<;>simp only[zx]<;>lia
 rcases e with rfl|rfl
 .exact((b.symm,g.ok,c),z61 g.line d (by simp only[zB];(walk_at "sl")) (yM _).1 hm,λx a=>jB (g.heads x a) ∅ (wy _),by change max _ _+1<=_;lia,by rw[hm,w19];have:=g.sub;change bd q+bd r<=_;lia,lv (.inl rfl),λv=>nofun)
 .exact((b,c,g.ok),z61 g.line d (by simp only[zB];(walk_at "sl")) (yM _).1 hm,λx a=>jB (g.heads x (by rw[<-b];show a)) ∅ (wy _),by change max _ _+1<=_;lia,by rw[hm,w19];have:=g.sub;change bd r+bd q<=_;lia,lv (.inr rfl),λv=>nofun)
theorem Gr.unite(g:Gr th tr i used twice q)(u:Un2 th q n q')(hn:∀x∈th n,x∈z0e 0 (used+1)):Gr th tr (i+1) (used+1) twice q' where
 ok:=u.ok
 line:=z03 g.line (yM _).1 (by have:=u.li;lia)
 heads:=λx a=>by
  have h1:∀x∈ze th q,x∈z0e (i+1) (used+1):=λx a=>jB (g.heads x a) ∅ ∅
  have h2:∀x∈th n,x∈z0e (i+1) (used+1):=λx a=>jB (hn x a) ∅ (wy _)
  rcases u.hd with e|e
  .rw [e]at a;show(wA.mp a).elim (h1 x) (h2 x)
  .rw [e]at a;show(wA.mp a).elim (h2 x) (h1 x)
 dp:=by have:=u.dp;have:=g.dp;lia
 sub:=by rw[u.sub,Nat.pow_succ,Nat.mul_right_comm];show QD _ g.sub
 lv:=by
  have:=g.lv;have:=(yM twice).1;rw[u.lv,w00,w1w]
  lia
 top:=λm e=>absurd e (u.nt m)
end
inductive spGrown(K:W.Frag)(vs:List V)(H:Hp)(Q:VK)(E:XK):Prop
 | mk:∀cp tp (ns:List Int) th tr,vs= [.ref cp,.ref tp]->SqL K H cp (ns.map V.int)->ns.length<=24->TabOk th tr->FourAt th tr H tp->(∀(v':V)(q:Qn)(used twice N:Nat)(H':Hp),zw H H'->StAt th H' v' q N->Gr th tr ns.length used twice q->used<=3->twice<=2->Q v' H')->spGrown K vs H Q E
inductive GrI(th:Str->List Str)(tr:Str->List (List Int))(H:Hp)(cp tp:AD)(i:Nat)(σ:St)(H':Hp):Prop
 | mk:∀(v:V)(q:Qn)(used twice N:Nat)(o5 o6 o7:Option V),σ= [AA (.ref cp),AA (.ref tp),AA v,AA (.int (used:Int)),AA (.int (twice:Int)),o5,o6,o7]->zw H H'->StAt th H' v q N->N<=60->Gr th tr i used twice q->1<=used->used<=3->twice<=2->GrI th tr H cp tp i σ H'
theorem zQ:FnScope ["_law_cells","_law_tables","_law_state","_law_used","_law_twice","_law_k","_law_seed","_law_turn"] ["_law_cells","_law_tables"] (zj z1B):=by done
theorem z5r(F:Fun K "_law_grown" "_law_grown" z1B f fd)(T:Txt K mg)(u:-Kn 8 "_law_picked" ["_law_state","_law_seed"] (spPicked K))(l:-Kn 1 "_law_columns" ["_law_state","_law_seed"] (spColumns K))(z:-Kn 2 "_law_united" ["_law_state","_law_table","_law_seed"] (spUnited K))
  (B:-Kn 1 "_law_beside" ["_law_state","_law_table","_law_seed"] (spBeside K))(j:-Kn 9 "_law_doubled" ["_law_state","_law_seed"] (spDoubled K))(y:-Kn 1 "_law_headed" ["_law_state","_law_seed"] (spHeaded K))(o:-Kn 1 "_law_counted" ["_law_state","_law_seed","_law_sign"] (spCounted K))(s:-Kn 1 "_law_sorted" ["_law_state","_law_seed"] (spSorted K)):
  FnOk P w K mg base CX0 10 f fd ["_law_cells","_law_tables"] (spGrown K):=by
 clear zQ F;obtain⟨cp,tp,ns,th,tr,rfl,hS,hn,TT,h4,fin⟩:=h;have g7:(ns.map V.int).length=ns.length:=wa _;intro ag A A3 sh O;have hu:=z3O O;show(_,(zc (seT 2 zQ (zu (zA (zu (zh zg (zh zg zb))) (zh zg (zp (ixT (ixL v1 zd) zd) (zp (ixT (ixL v1 zd) zd) zb))))))
  (zc (seT 3 zQ zd)
  (zc (seT 4 zQ zd)
  (zc (foR (jW rfl T.range (zK (leN T.len (za v0 zb)) zb)) (gnM 5 zQ)
   (zc (seT 6 zQ (zq yC (zq ye (ixL v0 v5) zd) v5))
   (zc (seT 7 zQ (zq zU (zq yC (ixL v0 v5) (zq z4C zd v5)) zd))
   (zf (zG (cmT z4Y (pv 7) zd)
    (zf (seT 2 zQ (jd u O.m (za v2 (za (pv 6) zb)))))
    (zf (zG (cmT zO (pv 7) zd)
     (zf (seT 2 zQ (jd l O.m (za v2 (za (pv 6) zb)))))
     (zf (zG (PW.pt (z24 (cmT zO (pv 7) zd) (z24 (cmT z4Y v3 zd) (z2m (cmT zec (zq z4C (leN T.len (zp (ixT v2 zd) zb)) (leN T.len (zp (ixT (ixL v1 v3) zd) zb))) zd)))))
      (zc (seT 2 zQ (jd z O.m (za v2 (zp (ixL v1 v3) (za (pv 6) zb)))))
      (zf (seT 3 zQ (zq yC v3 zd))))
      (zf (zG (PW.pt (z24 (cmT zO (pv 7) zd) (z24 (cmT z4Y v4 zd) (z2m (cmT zec (leN T.len (zp (ixT v2 zd) zb)) (zq z3x zd (zq z4C zd v4)))))))
       (zc (zG (z3k (cmT (zaC hu) (ixT v2 zd) (ixT (ixL v1 zd) zd)) (cmT zO (zq zU (pv 6) zd) zd))
        (zf (seT 2 zQ (jd B O.m (za v2 (zp (ixL v1 zd) (za (pv 6) zb))))))
        (zf (seT 2 zQ (jd j O.m (za v2 (za (pv 6) zb))))))
       (zf (seT 4 zQ (zq yC v4 zd))))
       (zf (zG (cmT zO (pv 7) zd)
        (zf (seT 2 zQ (jd y O.m (za v2 (za (pv 6) zb)))))
        (zf (zG (cmT zO (pv 7) zd)
         (zf (seT 2 zQ (jd o O.m (za v2 (za (pv 6) (zp (yw zeT zg v5 (λk k=>rfl)) zb))))))
         (zf (seT 2 zQ (jd s O.m (za v2 (za (pv 6) zb))))))))))))))))))))
  (zf (zt v2)))))),?_)
 ac_rfl;obtain⟨v0,v1,v2,v3,f0,t0,t1,t2,t3⟩:=id h4;obtain⟨p0,gO,pO,A4,rfl,a1,a3,a4,a5⟩:=t0;clear qp dN H1 n1 x1;show !(zy (n1 _ _ f0) zL (zi (n1 _ _ a1) jc (!(zy (n1 _ _ f0) zL (zi (n1 _ _ a1) jD ?_)))));clear sp aD H2 n2 x2;have s2:=n1.trans n2;have tt:("t":Str)∈tabs:=qI;have aB:StAt th H2 (.ref sp) (.table "t") (tr "t").length:=(sp,_,gO,pO,A4,rfl,x2,(qp,rfl,n2 _ _ x1),s2 _ _ a3,a4.same s2,z6E TT tt a5,by rw[<-a5,wa]);have g2:Gr th tr 0 1 0 (.table "t"):=by
  show(tt,?_,λx U=>?_,(),by change 60<=60 ^ 1*1;decide,by change 1<=1*1;decide,λn e=>by cases e;rfl)
  .have:(zB (.table "t")).length<=10:=by decide
   have:twM 0=1:=rfl
   lia
  .obtain⟨m,_,_,e⟩:=TT.t;have c7:x∈th "t":=U;rw[e]at c7;show lIn x (QB c7)
 show !(cp,!(.inl (s2.seq hS),!(∅,by rw[g7];lia,z6F (lo:=0) (n:=(ns.map V.int).length) (GrI th tr H cp tp)
  (_,_,1,0,_,AB,AB,AB,rfl,s2,aB,TT.ct,g2,(),(),()) ?_ ?_)))
 .rintro i σ H3 D M _ hi ⟨v,q,used,twice,N,o5,o6,o7,rfl,C,L,rows,d,R,J,w2⟩;rw[g7]at hi;have ml:i<=24:=by lia
  have aZ:atI (ns.map V.int) (0+(i:Int))=AA (.int (ns.getD i 0)):=by
   rw[w0G];show zZ (int_at hi)
  generalize ns.getD i 0=c at aZ
  have ud:=C.seq hS;have big:=d.big ml;have wide:=d.wide TT ∅ J;show !(!(cp,_,_,!(rfl,ud,aZ,_,!(rfl,((),()),!(_,!(rfl,?_))))));show !(!(cp,_,_,!(rfl,ud,aZ,!(_,!(rfl,.inl ((),()),_,!(rfl,_,!(rfl,(by change(0:Int)<9;decide),?_)))))));show !(_,!(rfl,!?_));show yZ (λb0=>?_) (λb0=>?_)
  .refine !(!(th,tr,q,v,_,N,rfl,TT,L,d.ok,∅,rows,λG c' H' Z s' ad I sm sz=>?_));show M _ _ (G,_,used,twice,_,_,_,_,rfl,C.trans s',ad,∅,d.pick TT sm sz,R,J,w2)
  show !(rfl,!?_);show yZ (λb1=>?_) (λb1=>?_)
  .refine !(!(th,tr,q,v,_,N,rfl,TT,L,d.ok,∅,rows,∅,λG A5 H' s' ad ne nd sub=>?_));show M _ _ (G,_,used,twice,_,_,_,_,rfl,C.trans s',ad,rows,d.cols TT ml J ne nd sub,R,J,w2)
  show z8f (z8c ?els) (λels=> ?main)
  case main=>
   show !(rfl,!?_);show yZ (λb2=>?_) (λb2=>els);show !(_,!(rfl,!?_));show yZ (λS=>?_) (λS=>els);have A6:(used:Int)<3:=Qq S;obtain⟨p,qv,hp,rp,rs,rfl,h1,h2,h3,gX,h5,h6⟩:=id L;have oa:rs.length<=60:=by rw[h6];show rows
   obtain⟨tv,n,ue,ht,mn,A7,bj,Ff⟩:∃(tv:V)(n:Str),atI [V.ref p0,v1,v2,v3] (used:Int)=AA tv/\TabAt th tr H3 tv n/\n∈tabs/\(∀x∈ze th q,x∉th n)/\(∀x∈th n,x∈z0e 0 (used+1))/\(tr n).length<=10:=by
    have:used=1\/used=2:=by lia
    rcases this with rfl|rfl
    .refine(v1,_,jc,t1.same C,by simp[tabs],λx U hy=>?_,?_,TT.cw)
     .rw [TT.w]at hy;show zf6 x hy (jB (d.heads x U) ∅ (wy _))
     .rw [TT.w];show wIn
    .refine(v2,_,jD,t2.same C,by simp[tabs],λx U hy=>?_,?_,TT.cx)
     .rw [TT.x]at hy;show zfg x hy (jB (d.heads x U) ∅ (wy _))
     .rw [TT.x];show eIn
   obtain⟨rn,nU,lW,ts,rfl,c1,c3,c4,c5⟩:=id ht;have A8:ts.length=(tr n).length:=by rw[<-c5,wa]
   have Y:=C _ _ f0;show !(zi h1 z1p (rp,!(.inl (SqL.of gX.1),!(!(zy Y ue (zi c1 jD (lW,!(.inl (SqL.of c4.1),_,!(rfl,.inl (by rw[wa];lia,by rw[wa];lia),_,!(rfl,!?_))))))))));show yZ (λX=>?_) (λX=>els);have oh:=Qq X;rw[wa,wa,A8]at oh;have b5:N*(tr n).length<=30:=by
    rw[<-h6]
    exact_mod_cast oh
   have A9:(th n).length<=1000:=by
    have:used=1\/used=2:=by lia
    have:=kA (TT.hd n mn).2 λx U=>jB (bj x U) (qN 26) (show used+1<=3 by lia)
    have:=z4O
    lia
   show !(!(!(zy Y ue (!(th,tr,q,n,_,_,_,N,rfl,TT,L,d.ok,ht,mn,A7,∅,rows,∅,∅,A9,λG q' H' Z s' ad I un=>?_)))));show !(_,!(rfl,?_));show M _ _ (G,q',used+1,twice,_,_,_,_,rfl,C.trans s',ad,∅,d.unite un bj,∅,∅,w2)
  case els=>
   show z8f (z8c ?els2) (λels=> ?main2)
   case main2=>
    show !(rfl,!?_);show yZ (λb2=>?_) (λb2=>els);show !(_,!(rfl,!?_));show yZ (λS=>?_) (λS=>els);have A6:(twice:Int)<2:=Qq S;have tw2:twice<2:=by lia
    obtain⟨p,qv,hp,rp,rs,rfl,h1,h2,h3,gX,h5,h6⟩:=id L;show !(zi h1 z1p (rp,!(.inl (SqL.of gX.1),!(_,!(rfl,.inl ((),()),_,!(rfl,_,!(rfl,!?_)))))));show yZ (λX=>?_) (λX=>els);have oh:=Qq X;rw[wa]at oh;have b5:N<=15:=by rw[<-h6];lia
    have Y:=C _ _ f0;obtain⟨p3,dL,tQ,Fg,rfl,d1,d3,d4,d5⟩:=id (t3.same C);show !(zi h1 jD (!(zy Y z1p (zi d1 jc (hp,dL,_,!(rfl,SqL.of h3,SqL.of d3,zY _,zY _,!(_,(!(_,!(rfl,(by change(0:Int)<3;decide),rfl,!(rfl,rfl)))),?_)))))));rw[z50];show yZ (λb6=>?_) (λb6=>?_)
    .rw [qX]at b6;have eh:ze th q=th "tuvz":=Qq b6.1;show !(!(zy Y z1p (!(th,tr,q,"tuvz",_,_,_,N,rfl,TT,L,t3.same C,by simp[tabs],eh,(),∅,rows,by rw[TT.cz];decide,λG q' H' Z s' ad I e'=>?_))));show !(_,!(rfl,?_));have mz:("tuvz":Str)∈tabs:=by simp[tabs]
     have lz:(zB (.table "tuvz")).length<=(zB q).length+1000:=wG (show(zB (.table "tuvz")).length<=10 by decide) ∅;rw[TT.cz]at I;show M _ _ (G,q',used,twice+1,_,_,_,_,rfl,C.trans s',ad,∅,d.both TT tw2 (r:= .table "tuvz") mz eh.symm lz (by change 1<=_;lia) (zgI q) (yq q) e',R,J,∅)
    .refine !(!(th,tr,q,_,_,N,rfl,TT,L,d.ok,∅,rows,λG q' c' H' Z s' ad I sm sz e'=>?_));show !(_,!(rfl,?_));have gp:=d.pick TT sm sz;show M _ _ (G,q',used,twice+1,_,_,_,_,rfl,C.trans s',ad,∅,d.both TT tw2 (r:= .pick c' q) gp.ok rfl (z4I (ja TT d.ok) sm sz) (by change depth q+1<=_;lia) (wy _) (wy _) e',R,J,∅)
   case els2=>
    show !(rfl,!?_);show yZ (λb2=>?_) (λb2=>?_)
    .refine !(!(th,q,v,_,N,rfl,L,∅,λG q' H' Z s' ad I aW=>?_));obtain⟨m,mm,rfl|⟨m',fH,rfl⟩⟩:=aW
     .exact M _ _ (G,_,used,twice,_,_,_,_,rfl,C.trans s',ad,∅,d.first mm,R,J,w2)
     .exact M _ _ (G,_,used,twice,_,_,_,_,rfl,C.trans s',ad,∅,d.firsts mm fH,R,J,w2)
    show !(rfl,!?_);show yZ (λS=>?_) (λS=>?_)
    .obtain⟨ch,ec,es⟩:=ze7 (i:=i) ∅;have l1:=(z2W _ (z3E (i:=i) ∅)).2.2;show !(!(!(zbE,_,!(rfl,zbA,ec,th,tr,q,v,_,_,N,rfl,TT,L,d.ok,by rw[es];show l1,∅,rows,λG a b H' Z s' ad I ma mb=>?_))));rw[es]at ad;show M _ _ (G,_,used,twice,_,_,_,_,rfl,C.trans s',ad,∅,d.group TT ∅ J ma mb,R,J,w2)
    .refine !(!(th,tr,q,v,_,N,rfl,TT,L,d.ok,∅,rows,λG n' H' s' ad mn=>?_));show M _ _ (G,_,used,twice,_,_,_,_,rfl,C.trans s',ad,rows,d.sort TT mn,R,J,w2)
 .rintro σ H3 ⟨v,q,used,twice,N,o5,o6,o7,rfl,C,L,_,d,R,J,w2⟩;rw[g7]at d;show !(fin v q used twice N H3 C L d J w2)
theorem ints_snoc{zs:List Int}(h:zs.length=j):∃a:List Int,zs.map V.int++[V.int z]=a.map V.int/\a.length=j+1:=
 (zs++[z],by rw[wT];rfl,by rw[wg,h];rfl)
theorem ze9{ns:List Int}(h:0<ns.length):atI (ns.map V.int) (-1)=AA (.int (ns.getD (ns.length-1) 0)):=by
 have e:=int_at (xs:=ns) (i:=ns.length-1) ∅;have h2:ixN (ns.map V.int).length (-1)=AA (ns.length-1):=by
  unfold ixN;rw[wW (),qc (by rw[wa];lia),wa]
  congr 1
  lia
 unfold atI;rw[h2];show e
structure Stk(H H':Hp)(rp r0 r1 r2:AD)(a b c:List (AD×List Int))(hl:Nat):Prop where
 same:zw H H'
 top:H' rp=AA (.lst [.ref r0,.ref r1,.ref r2])
 h0:RowsAt H' r0 a
 h1:RowsAt H' r1 b
 h2:RowsAt H' r2 c
 f0:H r0=AB
 f1:H r1=AB
 f2:H r2=AB
 n01:r0≠r1
 n02:r0≠r2
 n12:r1≠r2
 np0:rp≠r0
 np1:rp≠r1
 np2:rp≠r2
 a0:∀r∈a,r.1≠r0/\r.1≠r1/\r.1≠r2
 a1:∀r∈b,r.1≠r0/\r.1≠r1/\r.1≠r2
 a2:∀r∈c,r.1≠r0/\r.1≠r1/\r.1≠r2
 w0:∀r∈a,r.2.length=hl
 w1:∀r∈b,r.2.length=2
 w2:∀r∈c,r.2.length=1
theorem Stk.new{b c:List (AD×List Int)}(s:Stk H H' rp r0 r1 r2 a b c hl)(e:zw H' H1):Stk H H1 rp r0 r1 r2 a b c hl:=
 {s with same:=s.same.trans e,top:=e _ _ s.top,h0:=s.h0.same e,h1:=s.h1.same e,h2:=s.h2.same e}
def Stk.fresh{q:AD}{b c:List (AD×List Int)}(s:Stk H H' rp r0 r1 r2 a b c hl)(h:H' q=AB):q≠r0/\q≠r1/\q≠r2:=
 ((zr s.h0.1 h).symm,(zr s.h1.1 h).symm,(zr s.h2.1 h).symm)
theorem Stk.push0{q:AD}{b c:List (AD×List Int)}(s:Stk H H' rp r0 r1 r2 a b c hl)(f:H' q=AA (.lst (x.map V.int)))(d:q≠r0/\q≠r1/\q≠r2)(e:x.length=hl):
  Stk H (upd H' r0 (.lst (refs a++[V.ref q]))) rp r0 r1 r2 (a++[(q,x)]) b c hl where
 same:=s.same.put s.f0
 top:=by rw[zn s.np0];show s.top
 h0:=s.h0.push d.1 f
 h1:=s.h1.kp z2M s.n01.symm λr m=>(s.a1 r m).1
 h2:=s.h2.kp z2M s.n02.symm λr m=>(s.a2 r m).1
 f0:=s.f0
 f1:=s.f1
 f2:=s.f2
 n01:=s.n01
 n02:=s.n02
 n12:=s.n12
 np0:=s.np0
 np1:=s.np1
 np2:=s.np2
 a0:=λr m=>(wA.mp m).elim (s.a0 r) λm=>by rw[wm.mp m];show d
 a1:=s.a1
 a2:=s.a2
 w0:=λr m=>(wA.mp m).elim (s.w0 r) λm=>by rw[wm.mp m];show e
 w1:=s.w1
 w2:=s.w2
theorem Stk.push1{q:AD}{b c:List (AD×List Int)}(s:Stk H H' rp r0 r1 r2 a b c hl)(f:H' q=AA (.lst (x.map V.int)))(d:q≠r0/\q≠r1/\q≠r2)(e:x.length=2):
  Stk H (upd H' r1 (.lst (refs b++[V.ref q]))) rp r0 r1 r2 a (b++[(q,x)]) c hl where
 same:=s.same.put s.f1
 top:=by rw[zn s.np1];show s.top
 h0:=s.h0.kp z2M s.n01 λr m=>(s.a0 r m).2.1
 h1:=s.h1.push d.2.1 f
 h2:=s.h2.kp z2M s.n12.symm λr m=>(s.a2 r m).2.1
 f0:=s.f0
 f1:=s.f1
 f2:=s.f2
 n01:=s.n01
 n02:=s.n02
 n12:=s.n12
 np0:=s.np0
 np1:=s.np1
 np2:=s.np2
 a0:=s.a0
 a1:=λr m=>(wA.mp m).elim (s.a1 r) λm=>by rw[wm.mp m];show d
 a2:=s.a2
 w0:=s.w0
 w1:=λr m=>(wA.mp m).elim (s.w1 r) λm=>by rw[wm.mp m];show e
 w2:=s.w2
theorem Stk.push2{q:AD}{b c:List (AD×List Int)}(s:Stk H H' rp r0 r1 r2 a b c hl)(f:H' q=AA (.lst (x.map V.int)))(d:q≠r0/\q≠r1/\q≠r2)(e:x.length=1):
  Stk H (upd H' r2 (.lst (refs c++[V.ref q]))) rp r0 r1 r2 a b (c++[(q,x)]) hl where
 same:=s.same.put s.f2
 top:=by rw[zn s.np2];show s.top
 h0:=s.h0.kp z2M s.n02 λr m=>(s.a0 r m).2.2
 h1:=s.h1.kp z2M s.n12 λr m=>(s.a1 r m).2.2
 h2:=s.h2.push d.2.2 f
 f0:=s.f0
 f1:=s.f1
 f2:=s.f2
 n01:=s.n01
 n02:=s.n02
 n12:=s.n12
 np0:=s.np0
 np1:=s.np1
 np2:=s.np2
 a0:=s.a0
 a1:=s.a1
 a2:=λr m=>(wA.mp m).elim (s.a2 r) λm=>by rw[wm.mp m];show d
 w0:=s.w0
 w1:=s.w1
 w2:=λr m=>(wA.mp m).elim (s.w2 r) λm=>by rw[wm.mp m];show e
inductive StkI(H:Hp)(cp:AD)(more:Int)(rp hp r0 r1 r2:AD)(m:Nat)(i:Nat)(σ:St)(H':Hp):Prop
 | mk:∀(a b c:List (AD×List Int))(o4 o5 o6 o7 o8 o9:Option V),σ= [AA (.ref cp),AA (.int more),AA (.ref rp),AA (.ref hp),o4,o5,o6,o7,o8,o9,AB]->Stk H H' rp r0 r1 r2 a b c m->H' hp=AA (.lst ((jf.take m).map V.str))->a.length=(i+2)/3->b.length=(i+1)/3->c.length=i/3->StkI H cp more rp hp r0 r1 r2 m i σ H'
theorem zN:FnScope ["_law_cells","_law_more","_law_rows","_law_heads","_law_k","_law_cell","_law_one","_law_other","_law_rest","_law_first","_law_made"] ["_law_cells","_law_more"] (zj jT):=by done
theorem z3Z(F:Fun K "_law_stocked" "_law_stocked" jT f fd)(T:Txt K mg):-FnOk CX0 1 f fd ["_law_cells","_law_more"] (spStocked K):=by
 clear zN F;obtain⟨p,ns,more,rfl,B,hn,iA,Fh,fin⟩:=h;have g7:(ns.map V.int).length=ns.length:=wa _;have z0:0<=sizeLine:=by decide
 intro ag A A3 sh hr;show(_,(zc (seT 2 zN (zD (jO (zD zb) (jO (zD zb) (jO (zD zb) zb)))))
  (zc (yU (i:=3) zN.nd rfl (QO rfl) (zD (zh zg (zh zg (zh zg (zh zg (zh zg (zh zg (zh zg (zh zg (zh zg (zh zg (zh zg (zh zg zb))))))))))))))
  (zc (yU (i:=3) zN.nd rfl (QO rfl) (jy yN v3 yf (jI (ixL (zD (yp (zq yC zd (zq zU (zM (z2a rfl) rfl T.sum w0H (zp (jy yN v0 yf (jI zd)) zb)) zd)) (zh zd zb))) (jq z5P rfl T.int PyProof.Rows.boot_int (z9x (cmE zO (zq zU (zM (z2a rfl) rfl T.sum w0H (zp (jy yN v0 yf (jI zd)) zb)) zd) zd) zb))))))
  (zc (foR (jW rfl T.range (zK (zM (zap rfl) rfl T.max PyProof.Rows.boot_max (zh zd (zK (leN T.len (za v0 zb)) zb))) zb)) (z0E (i:=4) zN.nd rfl (QO rfl))
   (zc (yU (i:=5) zN.nd rfl (QO rfl) (zq yC (zq z4C zd v4) zd))
   (zc (kP (cmT z4Y v4 (leN T.len (za v0 zb)))
    (zf (yU (i:=5) zN.nd rfl (QO rfl) (ixL v0 v4)))
    zv)
   (zc (seT 6 zN (zq z3x (zq zU v5 zd) zd))
   (zc (seT 7 zN (zq z3x (zq zU (zq yC (zq ye v5 zd) v4) zd) zd))
   (zc (kP (cmT zO (zq zU v5 zd) zd)
    (zf (seT 7 zN (zq yC (pv 7) (z49 ((),(),())))))
    zv)
   (zc (yb (j:=8) rfl zN.nd rfl (w0v rfl) (CompSc.of (sx:=zj jT) (NX:= ["_law_cells","_law_more","_law_rows","_law_heads","_law_k","_law_cell","_law_one","_law_other","_law_rest","_law_first","_law_made"]) (fr:= ["_law_cell","_law_k"]) (ix:= [5,4]) rfl rfl ()) (zaY rfl T.range (zh zd (zK (leN T.len (za v3 zb)) zb))) (λv v v v v v=>jm) (λv v v v v v=>(zq zU (zq yC (zq yC (zq ye v1 zd) v2) v0) zd)))
   (zc (seT 9 zN (zq ju (zD (za (pv 6) (za (pv 7) zb))) (pv 8)))
   (zf (jb (apP (ixL v2 (zq zU v4 zd)) (zp (ixL (zD (za (pv 9) (jO (zD (za (pv 7) (za (pv 6) zb))) (jO (zD (za (pv 6) zb)) zb)))) (zq zU v4 zd)) zb))))))))))))
  (zc (kP (cmT zO (zq zU (zM (z2a rfl) rfl T.sum w0H (zp (jy yN v0 (jI (z5M z3C zd)) yf) zb)) zd) zd)
   (zf (foR (jW rfl T.range (za v1 zb)) (z0E (i:=4) zN.nd rfl (QO rfl))
    (zf (jb (apP (ixL v2 zd) (z0z (jH rfl (CompSc.of (sx:=zj jT) (NX:= ["_law_cells","_law_more","_law_rows","_law_heads","_law_k","_law_cell","_law_one","_law_other","_law_rest","_law_first","_law_made"]) (fr:= ["_law_k"]) (ix:= [4]) rfl rfl ()) (jW rfl T.range (zK (leN T.len (za v3 zb)) zb)) (λv v v v v v=>jm) (λv v v v v v=>(zq z3x (zq zU (zq yC v1 v0) zd) zd))) zb))))))
   zv)
  (zc (kP (PW.pt (z24 (cmT z6b (leN T.len (za v0 zb)) zd) (z2m (cmT zO (zq zU (ixL v0 zd) zd) zd))))
   (zf (z8K (zD zb) (z8W v2 (zq zU (ixL v0 (z5M z3C zd)) zd) set_list)))
   zv)
  (zc (seT 10 zN (zD (zA (zu (zh zg (za v3 (zp (ixL v2 zd) zb)))) (zA (zu (zh zg (jO (zD (zh zg (zh zg zb))) (zp (ixL v2 zd) zb)))) zb))))
  (zc (yb (j:=7) rfl zN.nd rfl (w0v rfl) (CompSc.of (sx:=zj jT) (NX:= ["_law_cells","_law_more","_law_rows","_law_heads","_law_k","_law_cell","_law_one","_law_other","_law_rest","_law_first","_law_made"]) (fr:= ["_law_heads"]) (ix:= [3]) rfl rfl ()) (jW rfl T.range (zh zd zb)) (λv v v v v v=>jm) (λv v v v v v=>(jH rfl (CompSc.of2 (sx:=zj jT) (NX:= ["_law_m","_law_heads"]) (fr:= ["_law_m"]) (ix:= [0]) rfl rfl ()) (jW rfl T.range (zK (zM (z5o (K:=K) rfl) rfl T.len PySem.boot_len (za v1 zb)) zb)) (λv v v v v v=>jm) (λv v v v v v=>(zq z3x (zq zU (zq yC (zq z4C zd v1) v0) zd) zd)))))
  (zf (zt (zq ju (pv 10) (zD (zA (zu (zh zg (jO (zD (zh zg zb)) (zp (ixL v2 zd) zb)))) (zA (zu (zh zg (zK (jq yL rfl T.list qY (za v3 zb)) (za (pv 7) zb)))) zb)))))))))))))),?_)
 ac_rfl;show(z0,λr0 af=>?_);clear r0 af H1 n1 x1 r0;show(z0,λr1 fF=>?_);clear r1 fF H2 n2 x2 r1;show(z0,λr2 S=>?_);clear r2 S H3 n3 x3 r2;clear rp fE H4 n4 x4;clear gO gY H5 n5 x5;replace x5:H5 gO=AA (.lst (jf.map V.str)):=x5;have s3:=n1.trans (n2.trans n3);have s5:=s3.trans (n4.trans n5);have eM:∀hl,Stk H H5 rp r0 r1 r2 [] [] [] hl:=λhl=>(s5,n5 _ _ x4,yG (n5 _ _ (n4 _ _ (n3 _ _ (n2 _ _ x1)))),yG (n5 _ _ (n4 _ _ (n3 _ _ x2))),yG (n5 _ _ (n4 _ _ x3)),af,n1.free fF,(n1.trans n2).free S,zr x1 fF,zr (n2 _ _ x1) S,zr x2 S,(zr (n3 _ _ (n2 _ _ x1)) fE).symm,(zr (n3 _ _ x2) fE).symm,(zr x3 fE).symm,λv z=>(by cases z),λv z=>(by cases z),λv z=>(by cases z),λv z=>(by cases z),λv z=>(by cases z),λv z=>(by cases z))
 show !(!(!(p,!(s5.seq B,λl1 iL=>?_))));rw[z2k];clear l1 iL H6 n6 x6 l1;show(l1,!(SqL.of x6,_,!(rfl,(by change(0:Int)<5;decide),_,!(rfl,(yx rfl),λl2 bF=>?_))));generalize ((ns.drop (HT.sIx ns.length 0 AB)).take (HT.sIx ns.length ns.length (AA 1)-HT.sIx ns.length 0 AB)).sum=sm;clear l2 bF H7 n7 x7 l2;show !(!(p,!((s5.trans (n6.trans n7)).seq B,λl3 ai=>?_)));rw[z2k];clear l3 ai H8 n8 x8 l3;show(l3,!(SqL.of x8,_,!(rfl,(by change(0:Int)<11;decide),rfl,.inr (!?_))));have bE:=n6.trans (n7.trans n8);obtain⟨m,m1,m2,em⟩:∃m:Int,2<=m/\m<=12/\atI [V.int (2+sm%5),V.int 12] (if decide (V.int (((ns.drop (HT.sIx ns.length 0 AB)).take (HT.sIx ns.length ns.length (AA 1)-HT.sIx ns.length 0 AB)).sum%11)=V.int 4)=true then 1 else 0)=AA (.int m):=by
  cases decide (V.int (((ns.drop (HT.sIx ns.length 0 AB)).take (HT.sIx ns.length ns.length (AA 1)-HT.sIx ns.length 0 AB)).sum%11)=V.int 4)with
  | true=>show(12,(),(),jc)
  | false=>show(2+sm%5,∅,∅,zL)
 show zy (n8 _ _ x7) em (!(gO,!(SqL.of (bE _ _ x5),λl cr=>?_)));rw[z1k ∅,<-w1Z];clear l cr H9 n9 x9 l;have gZ:(jf.take m.toNat).length=m.toNat:=by
  rw[qi];have:jf.length=12:=rfl
  lia
 have mq:=(eM m.toNat).new (bE.trans n9);have gQ:((jf.take m.toNat).map V.str).length=m.toNat:=by rw[wa,gZ]
 have ug:l≠r0:=(zr ((bE _ _ ((eM 0).h0.1))) cr).symm;have Aa:l≠r1:=(zr ((bE _ _ ((eM 0).h1.1))) cr).symm;have Ab:l≠r2:=(zr ((bE _ _ ((eM 0).h2.1))) cr).symm;have rq:l≠rp:=(zr ((bE _ _ ((eM 0).top))) cr).symm;have Fi:∀{H':Hp},zw H9 H'->H' l=AA (.lst ((jf.take m.toNat).map V.str)):=λe=>e _ _ x9
 have emax:(if(((ns.map V.int).length:Nat):Int) > 12 then(((ns.map V.int).length:Nat):Int)else 12)=((max 12 ns.length:Nat):Int):=by
  rw[g7];split<;>lia
 show !(p,!(.inl (mq.same.seq B),_,!(((max 12 ns.length:Nat):Int),QG (λz=> [V.int z]) emax,∅,∅,z6F (lo:=0) (n:=max 12 ns.length) (StkI H p more rp l r0 r1 r2 m.toNat) ([],[],[],AB,AB,AB,AB,AB,AB,rfl,mq,x9,rfl,rfl,rfl) ?_ ?_)))
 .rintro i σ G D hN _ hi ⟨a,b,c,s,o5,Z,Y,J,C,rfl,k0,gY,la,lb,lc⟩;have Ac:i<18:=by lia
  show !(_,!(rfl,.inl ((),()),_,!(rfl,?_)));show(λσ d=>∃cell:Int,σ= [AA (.ref p),AA (.int more),AA (.ref rp),AA (.ref l),AA (.int (0+(i:Int))),AA (.int cell),Z,Y,J,C,AB]/\d=G,?_,?_)
  .refine !(!(p,!(.inl (k0.same.seq B),_,!(rfl,!?_))));show yZ (λu=>?_) (λu=>?_)
   .have ii:=Qq u;rw[g7]at ii;have aZ:atI (ns.map V.int) (0+(i:Int))=AA (.int (ns.getD i 0)):=by rw[w0G];show zZ (int_at ∅)
    show !(!(p,_,_,!(rfl,k0.same.seq B,aZ,?_)));show !rfl
   .exact !rfl
  rintro σ G ⟨cell,rfl,rfl⟩;show !(_,!(rfl,(by change(0:Int)<4;decide),_,!(rfl,?_)));show !(_,!(rfl,((),()),!(_,!(rfl,_,!(rfl,(by change(0:Int)<5;decide),_,!(rfl,?_))))));show(λσ d=>∃one other:Int,σ= [AA (.ref p),AA (.int more),AA (.ref rp),AA (.ref l),AA (.int (0+(i:Int))),AA (.int cell),AA (.int one),AA (.int other),J,C,AB]/\d=G,?_,?_)
  .refine !(_,!(rfl,(by change(0:Int)<23;decide),rfl,!?_));show yZ (λu=>?_) (λu=>?_)
   .refine !(_,!(rfl,?_));show(_,!rfl)
   .exact(_,!rfl)
  rintro σ G ⟨one,other,rfl,rfl⟩;show !(l,!(.inl (SqL.of gY),2,(m.toNat:Int),QG (λz:Nat=> [V.int 2,V.int ((z:Nat):Int)]) gQ,(∅,∅,∅,∅),?_));show z0g (lo:=2) (n:=((m.toNat:Int)-2).toNat) (λj ys H'=>H'=G/\∃zs:List Int,ys=zs.map V.int/\zs.length=j) (rfl,[],rfl,rfl) ?_ ?_ ?_
  .rintro j ys d hj ⟨rfl,zs,rfl,lz⟩;show zH (by rw[wa];lia)
  .rintro j ys d hj ⟨rfl,zs,rfl,lz⟩;show !(_,!(rfl,((),()),!(_,!(rfl,!(_,!(rfl,_,!(rfl,(by change(0:Int)<3;decide),rfl,ints_snoc lz)))))))
  rintro ys G ⟨rfl,rest,rfl,uh⟩ tp aS;clear tp aS M e1 y1 tp;have iE:2+rest.length=m.toNat:=by lia
  show !(!?_);clear l4 hl4 U e2 y2;show !(l4,tp,_,!(rfl,y2,e2 _ _ y1,zR (by rw[wa];simp only[wP,QS];lia),λfp bG=>?_));have k2:=k0.new (e1.trans e2);have nf:=k2.fresh bG;clear fp bG G3 e3 x9 fp;replace x9:G3 fp=AA (.lst (([one,other]++rest).map V.int)):=by rw[x9,wT];rfl
  have k3:=k2.new e3;have dL:=(e1.trans (e2.trans e3)) _ _ gY;have fJ:i%3=0\/i%3=1\/i%3=2:=by lia
  rcases fJ with ui|ui|ui
  .have t:(0+(i:Int))%3=0:=by lia
   have mw:atI [V.ref r0,V.ref r1,V.ref r2] ((0+(i:Int))%3)=AA (V.ref r0):=by rw[t];show zL
   show !(!(_,!(rfl,(by change(0:Int)<3;decide),zy k3.top mw (.inl (rfl,_,SqL.of k3.h0.1),!(!(!?_))))));clear u1 fS G4 m1' y4;show !?_;clear u2 hu2 G5 m2' y5;clear u3 hu3 G6 m3' y6;have I:=k3.new (m1'.trans (m2'.trans m3'));have gb:=(m1'.trans (m2'.trans m3')) _ _ dL;show !(_,!(rfl,(by change(0:Int)<3;decide),zy y6 (by rw[t];show zL) (r0,_,!(rfl,I.h0.1,zH (by rw[wa];lia),?_))));show hN _ _ (_,_,_,_,_,_,_,_,_,rfl,I.push0 (x:= [one,other]++rest) ((m1'.trans (m2'.trans m3')) _ _ x9) nf (by simp;lia),by rw[zn ug];show gb,by rw[wg,wZ];lia,∅,∅)
  .have t:(0+(i:Int))%3=1:=by lia
   have mw:atI [V.ref r0,V.ref r1,V.ref r2] ((0+(i:Int))%3)=AA (V.ref r1):=by rw[t];show jc
   show !(!(_,!(rfl,(by change(0:Int)<3;decide),zy k3.top mw (.inl (rfl,_,SqL.of k3.h1.1),!(!(!?_))))));clear u1 fS G4 m1' y4;show !?_;clear u2 hu2 G5 m2' y5;clear u3 hu3 G6 m3' y6;have I:=k3.new (m1'.trans (m2'.trans m3'));have gb:=(m1'.trans (m2'.trans m3')) _ _ dL;show !(_,!(rfl,(by change(0:Int)<3;decide),zy y6 (by rw[t];show jc) (r1,_,!(rfl,I.h1.1,zH (by rw[wa];lia),?_))));show hN _ _ (_,_,_,_,_,_,_,_,_,rfl,I.push1 (x:= [other,one]) (m3' _ _ (m2' _ _ y4)) (k3.fresh fS) rfl,by rw[zn Aa];show gb,∅,by rw[wg,wZ];lia,∅)
  .have t:(0+(i:Int))%3=2:=by lia
   have mw:atI [V.ref r0,V.ref r1,V.ref r2] ((0+(i:Int))%3)=AA (V.ref r2):=by rw[t];show jD
   show !(!(_,!(rfl,(by change(0:Int)<3;decide),zy k3.top mw (.inl (rfl,_,SqL.of k3.h2.1),!(!(!?_))))));clear u1 fS G4 m1' y4;show !?_;clear u2 hu2 G5 m2' y5;clear u3 hu3 G6 m3' y6;have I:=k3.new (m1'.trans (m2'.trans m3'));have gb:=(m1'.trans (m2'.trans m3')) _ _ dL;show !(_,!(rfl,(by change(0:Int)<3;decide),zy y6 (by rw[t];show jD) (r2,_,!(rfl,I.h2.1,zH (by rw[wa];lia),?_))));show hN _ _ (_,_,_,_,_,_,_,_,_,rfl,I.push2 (x:= [one]) (m3' _ _ y5) ((k3.new m1').fresh hu2) rfl,by rw[zn Ab];show gb,∅,∅,by rw[wg,wZ];lia)
 rintro σ G ⟨a,b,c,s,o5,Z,Y,J,C,rfl,k0,uj,la,lb,lc⟩;have Ad:a.length<=7:=by lia
 have Fj:b.length<=7:=by lia
 have Fk:c.length<=7:=by lia
 show(λσ d=>∃(a:List (AD×List Int))(s:Option V),σ= [AA (.ref p),AA (.int more),AA (.ref rp),AA (.ref l),s,o5,Z,Y,J,C,AB]/\Stk H d rp r0 r1 r2 a b c m.toNat/\d l=AA (.lst ((jf.take m.toNat).map V.str))/\a.length<=60,?_,?_)
 .refine !(!(!(p,!(k0.same.seq B,λl5 aj=>?_))));rw[z2k];clear l5 aj M e1 y1 l5;show(l5,!(SqL.of y1,_,!(rfl,(by change(0:Int)<8;decide),rfl,!?_)));have k1:=k0.new e1;show yZ (λu=>?_) (λu=>?_)
  .refine !(more,rfl,∅,∅,z6F (lo:=0) (n:=more.toNat) (λi σ d=>∃(a:List (AD×List Int))(s:Option V),σ= [AA (.ref p),AA (.int more),AA (.ref rp),AA (.ref l),s,o5,Z,Y,J,C,AB]/\Stk H d rp r0 r1 r2 a b c m.toNat/\d l=AA (.lst ((jf.take m.toNat).map V.str))/\a.length<=7+i) (a,s,rfl,k1,e1 _ _ uj,Ad) ?_ ?_)
   .rintro i σ U D hN _ hi ⟨a,s,rfl,k2,L,Ae⟩;show !(zy k2.top zL (.inl (rfl,_,SqL.of k2.h0.1),!(l,!(.inl (SqL.of L),(m.toNat:Int),QG (λz:Nat=> [V.int ((z:Nat):Int)]) gQ,∅,∅,?_))));show z0g (lo:=0) (n:=(m.toNat:Int).toNat) (λj ys H'=>H'=U/\∃zs:List Int,ys=zs.map V.int/\zs.length=j) (rfl,[],rfl,rfl) ?_ ?_ ?_
    .rintro j ys d hj ⟨rfl,zs,rfl,lz⟩;show zH (by rw[wa];lia)
    .rintro j ys d hj ⟨rfl,zs,rfl,lz⟩;show !(!(_,!(rfl,_,!(rfl,(by change(0:Int)<4;decide),_,!(rfl,rfl,ints_snoc lz)))))
    rintro ys d ⟨rfl,zs,rfl,lz⟩ tp aS;have nf:=k2.fresh aS;clear tp aS G3 e3 y3 tp;have k3:=k2.new e3;show(r0,_,!(rfl,k3.h0.1,zH (by rw[wa];lia),?_));show hN _ _ (_,!(k3.push0 y3 nf (by rw[lz];rfl),by rw[zn ug];show e3 _ _ L,by rw[wg,wZ];lia))
   .rintro σ U ⟨a,s,rfl,k2,L,Ae⟩;show(a,s,rfl,k2,L,∅)
  .exact(a,s,rfl,k1,e1 _ _ uj,∅)
 rintro σ M ⟨a,s,rfl,k1,fW,rA⟩;show(λσ d=>∃(N R O:AD)(a b c:List (AD×List Int)),σ= [AA (.ref p),AA (.int more),AA (.ref rp),AA (.ref l),s,o5,Z,Y,J,C,AB]/\zw H d/\d rp=AA (.lst [.ref N,.ref R,.ref O])/\d l=AA (.lst ((jf.take m.toNat).map V.str))/\RowsAt d N a/\RowsAt d R b/\RowsAt d O c/\
  (∀r∈a,r.2.length=m.toNat)/\(∀r∈b,r.2.length=2)/\(∀r∈c,r.2.length=1)/\a.length<=60/\b.length<=10/\c.length<=10,?_,?_)
 .have mB:∃(N R O:AD)(a b c:List (AD×List Int)),([AA (.ref p),AA (.int more),AA (.ref rp),AA (.ref l),s,o5,Z,Y,J,C,AB]:List (Option V))= [AA (.ref p),AA (.int more),AA (.ref rp),AA (.ref l),s,o5,Z,Y,J,C,AB]/\zw H M/\M rp=AA (.lst [.ref N,.ref R,.ref O])/\M l=AA (.lst ((jf.take m.toNat).map V.str))/\RowsAt M N a/\RowsAt M R b/\RowsAt M O c/\
   (∀r∈a,r.2.length=m.toNat)/\(∀r∈b,r.2.length=2)/\(∀r∈c,r.2.length=1)/\a.length<=60/\b.length<=10/\c.length<=10:=
   (r0,r1,r2,a,b,c,rfl,k1.same,k1.top,fW,k1.h0,k1.h1,k1.h2,k1.w0,k1.w1,k1.w2,rA,∅,∅)
  show z8f (z8c mB) (λels=>?_);clear mB;show !(p,!(.inl (k1.same.seq B),_,!(rfl,!?_)));show yZ (λu=>?_) (λu=>els);have ii:=Qq u;rw[g7]at ii;have eC:0<ns.length:=by lia
  have Af:atI (ns.map V.int) 0=AA (.int (ns.getD 0 0)):=zZ (j:=0) (int_at eC);have uk:atI (ns.map V.int) (-1)=AA (.int (ns.getD (ns.length-1) 0)):=ze9 eC;show !(p,_,_,!(rfl,k1.same.seq B,Af,_,!(rfl,(by change(0:Int)<9;decide),rfl,!?_)));show yZ (λhc=>?_) (λhc=>els);show(z0,λep ac=>?_);clear ep ac U e2 y2 ep;generalize ns.getD (ns.length-1) 0=lst at uk;show !(!(!(p,_,_,!(rfl,(k1.same.trans e2).seq B,uk,_,!(rfl,(by change(0:Int)<3;decide),?_)))));have k2:=k1.new e2;have rB:ep≠rp:=(zr k1.top ac).symm;have rC:H rp=none:=s3.free fE;have fJ:lst%3=0\/lst%3=1\/lst%3=2:=by lia
  have kp:∀{q:AD} {rs:List (AD×List Int)} {o:HO},RowsAt U q rs->q≠rp->RowsAt (upd U rp o) q rs:=λ{q rs o} h n=>h.kp z2M n λr m z=>by
   have h1:=(h.2 r m).2;rw[z,k2.top]at h1;have h2:=QG (λx=>match x with|some (HO.lst xs)=>xs|_=> []) h1;have t: [V.ref r0,V.ref r1,V.ref r2]=r.2.map V.int:=h2;cases S:r.2 with
   | nil=>rw[S]at t;cases t
   | cons x xs=>rw[S]at t;cases t
  rcases fJ with fJ|fJ|fJ
  .refine(rp,_,_,0,rfl,rfl,k2.top,by rw[fJ];rfl,?_);show(ep,r1,r2,[],b,c,rfl,(k2.same).put rC,zm,by rw[zn rq];show e2 _ _ fW,kp (yG y2) rB,kp k2.h1 k2.np1.symm,kp k2.h2 k2.np2.symm,λv z=>(by cases z),k2.w1,k2.w2,qN _,∅,∅)
  .refine(rp,_,_,1,rfl,rfl,k2.top,by rw[fJ];rfl,?_);show(r0,ep,r2,a,[],c,rfl,(k2.same).put rC,zm,by rw[zn rq];show e2 _ _ fW,kp k2.h0 k2.np0.symm,kp (yG y2) rB,kp k2.h2 k2.np2.symm,k2.w0,λv z=>(by cases z),k2.w2,rA,qN _,∅)
  .refine(rp,_,_,2,rfl,rfl,k2.top,by rw[fJ];rfl,?_);show(r0,r1,ep,a,b,[],rfl,(k2.same).put rC,zm,by rw[zn rq];show e2 _ _ fW,kp k2.h0 k2.np0.symm,kp k2.h1 k2.np1.symm,kp (yG y2) rB,k2.w0,k2.w1,λv z=>(by cases z),rA,∅,qN _)
 rintro σ U ⟨N,R,O,a,b,c,rfl,Ag,top2,L,j0,j1,j2,w0,w1,w2,c0,c1,c2⟩;show !(!(zy top2 zL ?_));clear t0 ht0 G3 e3 y3;clear wl aH G4 e4 y4;show !(zy (e4 _ _ (e3 _ _ top2)) jc ?_);clear t1 ht1 G5 e5 y5;clear mp iJ G6 e6 y6;have ul:=e3.trans (e4.trans (e5.trans e6));show(3,rfl,(),(),?_);show z0g (lo:=0) (n:=(3:Int).toNat) (λi ys H'=>zw G6 H'/\∃y:List (AD×List Int),ys=refs y/\y.length=i/\(∀r∈y,H' r.1=AA (.lst (r.2.map V.int))/\r.2.length=m.toNat)) (zw.refl _,[],rfl,rfl,λv z=>(by cases z)) ?_ ?_ ?_
 .rintro i ys d hi ⟨ar,y,rfl,lq,hq⟩;show zH (by rw[wa,lq];show wG hi ())
 .rintro i ys d hi ⟨ar,y,rfl,lq,hq⟩;have Ah:=ar _ _ (ul _ _ L);show !(l,!(.inl (SqL.of Ah),(m.toNat:Int),QG (λz:Nat=> [V.int ((z:Nat):Int)]) gQ,∅,∅,?_));show z0g (lo:=0) (n:=(m.toNat:Int).toNat) (λj ys H'=>H'=d/\∃zs:List Int,ys=zs.map V.int/\zs.length=j) (rfl,[],rfl,rfl) ?_ ?_ ?_
  .rintro j ys d hj ⟨rfl,zs,rfl,lz⟩;show zH (by rw[wa];lia)
  .rintro j ys d hj ⟨rfl,zs,rfl,lz⟩;show !(_,!(rfl,.inl ((),()),!(_,!(rfl,_,!(rfl,(by change(0:Int)<5;decide),_,!(rfl,rfl,ints_snoc lz))))))
  .rintro ys G7 ⟨rfl,zs,rfl,lz⟩ lp bA;have n8:=zE bA (.lst (zs.map V.int));show(ar.trans n8,y++[(lp,zs)],by simp[refs],by rw[wg,lq];rfl,λr mm=>?_);rcases wA.mp mm with mm|mm
   .exact(n8 _ _ (hq r mm).1,(hq r mm).2)
   .rw [wm.mp mm];show(zm,by rw[lz];rfl)
 rintro ys G7 ⟨Ai,y,rfl,lq,hq⟩ op um;clear op um G8 e8 y8 op;have mC:=Ai.trans e8;have rD:=ul.trans mC;have ro:=ym um e8 y8 λr mm=>(hq r mm).1
 show !?_;clear xl gE G9 e9 y9;show !(zy (e9 _ _ (rD _ _ top2)) jD ?_);clear t2 rE G10 e10 y10;show !(l,!(.inl (SqL.of (e10 _ _ (e9 _ _ (rD _ _ L)))),λcl bx=>?_));clear cl bx G11 e11 y11 cl;show !?_;clear t3 rF G12 e12 y12;clear bp hbp G13 e13 y13;have mD:=e9.trans (e10.trans (e11.trans (e12.trans e13)));show(mp,bp,_,!(rfl,mD _ _ (mC _ _ y6),y13,(yx rfl),λX ae=>?_));clear X ae G14 e14 y14 X;have eN:=mD.trans e14;have eO:=rD.trans eN;have tok:=tabs_ok (m:=m.toNat) (r0:=a.map (·.2)) (r1:=b.map (·.2)) (r2:=c.map (·.2)) (r3:=y.map (·.2)) ∅ ∅ (λr mm=>by obtain⟨x,hx,rfl⟩:=Q0.mp mm;rw[gZ];show w0 x hx) (λr mm=>by obtain⟨x,hx,rfl⟩:=Q0.mp mm;show w1 x hx)
  (λr mm=>by obtain⟨x,hx,rfl⟩:=Q0.mp mm;show w2 x hx) (λr mm=>by obtain⟨x,hx,rfl⟩:=Q0.mp mm;rw[gZ];show(hq x hx).2) (by rw[wa];show c0) (by rw[wa];show c1) (by rw[wa];show c2) (by rw[wa,lq];rfl)
 show fin X _ _ _ (Ag.trans eO) tok (.ref t0,.ref t1,.ref t2,.ref t3,y14,(t0,l,N,a,rfl,?_,?_,j0.same eO,?_),(t1,wl,R,b,rfl,?_,?_,j1.same eO,?_),(t2,xl,O,c,rfl,?_,?_,j2.same eO,?_),(t3,cl,op,y,rfl,?_,?_,ro.same eN,?_))
 .exact(e4.trans (e5.trans (e6.trans (mC.trans eN)))) _ _ y3
 .rw [show z1N (jf.take m.toNat) "t"=jf.take m.toNat by unfold z1N;rw[wW (),wW ()]];show eO _ _ L
 .unfold z3I;rw[qc rfl]
 .exact(e6.trans (mC.trans eN)) _ _ y5
 .rw [show z1N (jf.take m.toNat) "tuvtuvtuvw"=z2J by unfold z1N;rw[qc rfl]];show(e5.trans (e6.trans (mC.trans eN))) _ _ y4
 .unfold z3I;rw[wW (),qc rfl]
 .exact(e11.trans (e12.trans (e13.trans e14))) _ _ y10
 .rw [show z1N (jf.take m.toNat) "tuvtuvtuvx"=(["e"]:List Str) by unfold z1N;rw[wW (),qc rfl]];show(e10.trans (e11.trans (e12.trans (e13.trans e14)))) _ _ y9
 .unfold z3I;rw[wW (),wW (),qc rfl]
 .exact(e13.trans e14) _ _ y12
 .rw [show z1N (jf.take m.toNat) "tuvz"=jf.take m.toNat by unfold z1N;rw[wW (),wW ()]];show(e12.trans (e13.trans e14)) _ _ y11
 .unfold z3I;rw[wW (),wW (),wW ()]
inductive spTexts(K:W.Frag)(vs:List V)(H:Hp)(Q:VK)(E:XK):Prop
 | mk:∀a b (ss:List Str),vs= [.ref a,.ref b]->H a=AA (.lst (ss.map V.str))->SqL K H b (ss.map V.str)->ss.length<=100000->Q (.bl true) H->spTexts K vs H Q E
theorem z2w:FnScope ["_law_found","_law_due","_law_k"] ["_law_found","_law_due"] (zj z1v):=by done
theorem z5n(F:Fun K "_law_texts" "_law_texts" z1v f fd)(T:Txt K mg):-FnOk CX0 1 f fd ["_law_found","_law_due"] (spTexts K):=by
 clear z2w F;obtain⟨a,b,ss,rfl,ha,c,hz,q⟩:=h;intro ag A A3 p r;show(_,(zc (zG (z1w (kh (jj (zM jw rfl T.isinstance wJ (za v0 (za (yK (v:= .ty "list") rfl T.list qY rfl) zb))))) (cmT z1J (leN T.len (za v0 zb)) (leN T.len (za v1 zb))))
   (zf (zt yn))
   zv)
  (zc (foR (jW rfl T.range (zK (leN T.len (za v1 zb)) zb)) (gnM 2 z2w)
   (zf (zG (z1w (kh (jj (zM jw rfl T.isinstance wJ (zp (ixL v0 v2) (za (yK (v:= .ty "str") rfl T.str Qm rfl) zb))))) (cmT z1J (ixL v0 v2) (ixL v1 v2)))
    (zf (zt yn))
    zv)))
  (zf (zt yn)))),?_)
 ac_rfl;have hl:(ss.map V.str).length=ss.length:=wa _;have j: -(2 ^ 62)<=(((ss.map V.str).length:Nat):Int):=by lia
 have l:(((ss.map V.str).length:Nat):Int)<2 ^ 62:=by rw[hl];lia
 show !(_,_,_,!(TyOf.lst ha,yJ,!(_,(!(a,!(.inl (SqL.of ha),!(b,!(.inl c,rfl,!(rfl,rfl)))))),?_)));show ifF (by simp) ?_;show !(b,!(.inl c,!(j,l,z1n (lo:=0) (n:=(ss.map V.str).length) (λi σ H2=>∃v:Option V,σ= [AA (.ref a),AA (.ref b),v]/\H2=H) (AB,rfl,rfl) ?_ ?_)))
 .rintro i σ H2 hi ⟨v,rfl,rfl⟩;have e:i<ss.length:=by rw[hl]at hi;show hi
  have o:(ss.map V.str)[i]? =AA (.str ss[i]):=by
   rw[wK,wb e]
   rfl
  have d:atI (ss.map V.str) (0+(i:Int))=AA (.str ss[i]):=by
   rw[w0G];show zZ o
  show !(!(zy ha d (_,_,_,!(TyOf.str _,yJ,!(_,(!(!(zy ha d (!(!(b,_,_,!(rfl,c,d,rfl,!(rfl,rfl)))))))),?_)))));show ifF (by simp) ?_;show !rfl
 .rintro σ H2 ⟨v,rfl,rfl⟩;show q
inductive spWhole(vs:List V)(H:Hp)(Q:VK)(E:XK):Prop
 | mk:∀v b,vs= [v]->(∃i,v= .int i/\b=true)\/(b=false/\((∃s,v= .str s)\/∃p xs,v= .ref p/\H p=AA (.tup xs)))->Q (.bl b) H->spWhole vs H Q E
theorem z7z:PySem.W.kitOne K (.type "str") (.type "int")=AA false:=by kernel_rfl
theorem z6J:PySem.W.kitOne K (.type "str") (.type "bool")=AA false:=by kernel_rfl
theorem z7Q:PySem.W.kitOne K (.type "tuple") (.type "int")=AA false:=by kernel_rfl
theorem z6p:PySem.W.kitOne K (.type "tuple") (.type "bool")=AA false:=by kernel_rfl
theorem z5j:FnScope ["_law_found"] ["_law_found"] (zj z1r):=by done
theorem z5w(F:Fun K "_law_whole" "_law_whole" z1r f fd)(T:Txt K mg):-FnOk CX0 1 f fd ["_law_found"] spWhole:=by
 clear z5j F;obtain⟨v,b,rfl,a,q⟩:=h;intro ag A A3 c d;show(_,(zf (zt (zdZ (zM jw rfl T.isinstance wJ (za v0 (za (yK (v:= .ty "int") rfl T.int PyProof.Rows.boot_int rfl) zb))) (z8O (zM jw rfl T.isinstance wJ (za v0 (za (yK (v:= .ty "bool") rfl T.bool PyProof.Rows.boot_bool rfl) zb))))))),?_);generalize hK0:K=K1
 revert K1
 show jF #[] ?_;rcases a with⟨i,rfl,rfl⟩|⟨rfl,⟨s,rfl⟩|⟨p,xs,rfl,hp⟩⟩
 rotate_left
 .exact !(_,_,_,!(TyOf.str s,z7z,!(_,(!(_,_,_,!(TyOf.str s,z6J,!(rfl,rfl)))),q)))
 .exact !(_,_,_,!(TyOf.tup hp,z7Q,!(_,(!(_,_,_,!(TyOf.tup hp,z6p,!(rfl,rfl)))),q)))
 show !(_,_,_,!(TyOf.int i,yJ,!(_,(!(_,_,_,!(TyOf.int i,z6e,!(rfl,rfl)))),q)))
inductive spNumbers(K:W.Frag)(vs:List V)(H:Hp)(Q:VK)(E:XK):Prop
 | mk:∀a b (ns:List Int),vs= [.ref a,.ref b]->H a=AA (.lst (ns.map V.int))->SqL K H b (ns.map V.int)->ns.length<=100000->Q (.bl true) H->spNumbers K vs H Q E
theorem z1M:FnScope ["_law_found","_law_due","_law_k"] ["_law_found","_law_due"] (zj z0V):=by done
theorem z3V(F:Fun K "_law_numbers" "_law_numbers" z0V f fd)(T:Txt K mg)(c:-Kn 1 "_law_whole" ["_law_found"] spWhole):-FnOk CX0 2 f fd ["_law_found","_law_due"] (spNumbers K):=by
 clear z1M F;obtain⟨a,b,ns,rfl,ha,d,hz,q⟩:=h;intro ag A A3 r j;show(_,(zc (zG (z1w (kh (jj (zM jw rfl T.isinstance wJ (za v0 (za (yK (v:= .ty "list") rfl T.list qY rfl) zb))))) (cmT z1J (leN T.len (za v0 zb)) (leN T.len (za v1 zb))))
   (zf (zt yn))
   zv)
  (zc (foR (jW rfl T.range (zK (leN T.len (za v1 zb)) zb)) (gnM 2 z1M)
   (zf (zG (z1w (kh (jj (jd c j.m (zp (ixL v0 v2) zb)))) (cmT z1J (ixL v0 v2) (ixL v1 v2)))
    (zf (zt yn))
    zv)))
  (zf (zt yn)))),?_)
 ac_rfl;have hl:(ns.map V.int).length=ns.length:=wa _;have o: -(2 ^ 62)<=(((ns.map V.int).length:Nat):Int):=by lia
 have p:(((ns.map V.int).length:Nat):Int)<2 ^ 62:=by rw[hl];lia
 show !(_,_,_,!(TyOf.lst ha,yJ,!(_,(!(a,!(.inl (SqL.of ha),!(b,!(.inl d,rfl,!(rfl,rfl)))))),?_)));show ifF (by simp) ?_;show !(b,!(.inl d,!(o,p,z1n (lo:=0) (n:=(ns.map V.int).length) (λi σ H2=>∃v:Option V,σ= [AA (.ref a),AA (.ref b),v]/\H2=H) (AB,rfl,rfl) ?_ ?_)))
 .rintro i σ H2 hi ⟨v,rfl,rfl⟩;have l:i<ns.length:=by rw[hl]at hi;show hi
  have e:atI (ns.map V.int) (0+(i:Int))=AA (.int ns[i]):=by
   rw[w0G];show zZ (by rw[wK,wb l];rfl)
  show !(!(zy ha e (_,_,rfl,.inl (_,rfl,rfl),!(_,(!(!(zy ha e (!(!(b,_,_,!(rfl,d,e,rfl,!(rfl,rfl)))))))),?_))));show ifF (by simp) ?_;show !rfl
 .rintro σ H2 ⟨v,rfl,rfl⟩;show q
inductive spAlike(K:W.Frag)(vs:List V)(H:Hp)(Q:VK)(E:XK):Prop
 | mk:∀a b rs qs,vs= [.ref a,.ref b]->RowsAt H a rs->RowsAt H b qs->rs.map (·.2)=qs.map (·.2)->rs.length<=100000->(∀r∈rs,r.2.length<=100000)->Q (.bl true) H->spAlike K vs H Q E
theorem z2y:FnScope ["_law_found","_law_due","_law_k"] ["_law_found","_law_due"] (zj z1F):=by done
theorem z5f(F:Fun K "_law_alike" "_law_alike" z1F f fd)(T:Txt K mg)(c:-Kn 2 "_law_numbers" ["_law_found","_law_due"] (spNumbers K)):-FnOk CX0 3 f fd ["_law_found","_law_due"] (spAlike K):=by
 clear z2y F;obtain⟨a,b,rs,d,rfl,ha,e,he,hz,p,q⟩:=h;intro ag A A3 t o;show(_,(zc (zG (z1w (kh (jj (zM jw rfl T.isinstance wJ (za v0 (za (yK (v:= .ty "list") rfl T.list qY rfl) zb))))) (cmT z1J (leN T.len (za v0 zb)) (leN T.len (za v1 zb))))
   (zf (zt yn))
   zv)
  (zc (foR (jW rfl T.range (zK (leN T.len (za v1 zb)) zb)) (gnM 2 z2y)
   (zf (zG (kh (jj (jd c o.m (zp (ixL v0 v2) (zp (ixL v1 v2) zb)))))
    (zf (zt yn))
    zv)))
  (zf (zt yn)))),?_)
 ac_rfl;have r:(refs rs).length=rs.length:=wa _;have l:(refs d).length=d.length:=wa _;have hl:rs.length=d.length:=by
  have:=QG List.length he
  rwa [wa,wa]at this
 show !(_,_,_,!(TyOf.lst ha.1,yJ,!(_,(!(a,!(.inl (SqL.of ha.1),!(b,!(.inl (SqL.of e.1),rfl,!(rfl,rfl)))))),?_)));show ifF (by rw[r,l,hl];simp) ?_;show !(b,!(.inl (SqL.of e.1),!(∅,by rw[l];lia,z1n (lo:=0) (n:=(refs d).length) (λi σ H2=>∃v:Option V,σ= [AA (.ref a),AA (.ref b),v]/\H2=H) (AB,rfl,rfl) ?_ ?_)))
 .rintro i σ H2 hi ⟨v,rfl,rfl⟩;rw[l]at hi;have j:i<rs.length:=by lia
  have s:rs[i].2=d[i].2:=by
   have h1:(rs.map (·.2))[i]? =AA rs[i].2:=by rw[wK,wb j];rfl
   rw[he,wK,wb hi]at h1;show(Option.some.inj h1).symm
  show !(!(zy ha.1 (z6z j) (!(!(zy e.1 (z6z hi) (rs[i].1,d[i].1,rs[i].2,rfl,(ha.2 _ (wz j)).2,SqL.of (by rw[s];show(e.2 _ (wz hi)).2),p _ (wz j),!?_))))));show ifF (by rfl) ?_;show !rfl
 .rintro σ H2 ⟨v,rfl,rfl⟩;show q
structure TxtP(K:W.Frag)(mg:Str->Option AC):Prop where
 cmp:∃a,mg "COMPARISONS"=AA (.ref a)/\∀H,SqT K H a [.str "less",.str "same"]
 set:mg "set"=AB
 two:∃a,mg "TWOFOLD"=AA (.ref a)/\∀H,SqT K H a [.str "pair",.str "join",.str "both"]
inductive spNum(K:W.Frag)(vs:List V)(H:Hp)(Q:VK)(E:XK):Prop
 | mk:∀(sd:Side) hp rp (hs:List Str) (rs:List Int),vs= [sd.v,.ref hp,.ref rp]->SqL K H hp (hs.map V.str)->SqL K H rp (rs.map V.int)->hs.length=rs.length->sd.ok hs->Q (.int (num hs rs sd)) H->spNum K vs H Q E
theorem z6o:FnScope ["side","heads","row"] ["side","heads","row"] (zj z1V):=by done
theorem z6H(F:Fun K "number_of" "number_of" z1V f fd)(T:Txt K mg):-FnOk CX0 1 f fd ["side","heads","row"] (spNum K):=by
 clear z6o F;obtain⟨sd,c,rp,hs,rs,rfl,h1,h2,hl,ok,q⟩:=h;intro ag A A3 e j;show(_,(zc (zG (jj (zM jw rfl T.isinstance wJ (za v0 (za (yK (v:= .ty "str") rfl T.str Qm rfl) zb))))
   (zf (zt (ixL v2 (kH wR qC qL yi v1 (za v0 zb)))))
   zv)
  (zf (zt v0))),?_)
 ac_rfl;cases sd with
 | nm x=>
  show !(_,_,_,!(TyOf.str x,yJ,!?_));show z8z ?_;have a:x∈hs:=ok;have b:hs.idxOf x<rs.length:=by
   rw[<-hl];show qF.mpr a
  have d:(rs.map V.int)[hs.idxOf x]? =AA (V.int (rs.getD (hs.idxOf x) 0)):=by
   rw[wK,wb b,wx,wb b]
   rfl
  show !(!(.inl (rfl,_,h1),!(c,_,_,hs.idxOf x,rfl,rfl,h1,rfl,zY hs,(jn a).1,(jn a).2,rp,_,_,!(rfl,h2,zZ d,q))))
 | nu i=>
  show !(_,_,_,!(TyOf.int i,z1W,!?_));show z8c ?_;show !q
inductive spCmp(K:W.Frag)(vs:List V)(H:Hp)(Q:VK)(E:XK):Prop
 | mk:∀c vc hp rp (hs:List Str) (rs:List Int),vs= [vc,.ref hp,.ref rp]->zI H c vc->c.leaf=true->c.ok hs->SqL K H hp (hs.map V.str)->SqL K H rp (rs.map V.int)->hs.length=rs.length->Q (.bl (ev hs rs c)) H->spCmp K vs H Q E
theorem z27:FnScope ["comparison","heads","row","first","second"] ["comparison","heads","row"] (zj z2K):=by done
theorem z7F(F:Fun K "compared" "compared" z2K f fd)(T:Txt K mg)(e:-Kn 1 "number_of" ["side","heads","row"] (spNum K)):-FnOk CX0 2 f fd ["comparison","heads","row"] (spCmp K):=by
 clear z27 F;obtain⟨c,o,i,rp,hs,rs,rfl,hc,lf,ok,h1,h2,hl,q⟩:=h;intro ag A A3 n l;show(_,(zc (seT 3 z27 (jd e l.m (zp (ixT v0 zd) (za v1 (za v2 zb)))))
  (zc (seT 4 z27 (jd e l.m (zp (ixT v0 zd) (za v1 (za v2 zb)))))
  (zc (zG (cmT zO (ixT v0 zd) zg)
   (zf (zt (cmE z4Y v3 v4)))
   zv)
  (zf (zt (cmE zO v3 v4)))))),?_)
 ac_rfl;cases c with
 | less a b=>
  obtain⟨p,rfl,h⟩:=hc;obtain⟨j,kb⟩:=ok;show !(zi h jc (!(!(a,i,rp,hs,rs,rfl,h1,h2,hl,j,?_))));show !(zi h jD (!(!(b,i,rp,hs,rs,rfl,h1,h2,hl,kb,?_))));show !(zi h zL (rfl,!?_));show ifT () ?_;show !(!(_,!(rfl,q)))
 | same a b=>
  obtain⟨p,rfl,h⟩:=hc;obtain⟨j,kb⟩:=ok;show !(zi h jc (!(!(a,i,rp,hs,rs,rfl,h1,h2,hl,j,?_))));show !(zi h jD (!(!(b,i,rp,hs,rs,rfl,h1,h2,hl,kb,?_))));show !(zi h zL (rfl,!?_));show ifF () ?_;show !(!(rfl,?_));show qbl z83 q
 | no c=>cases lf
 | an c d=>cases lf
 | or c d=>cases lf
inductive spHolds(K:W.Frag)(vs:List V)(H:Hp)(Q:VK)(E:XK):Prop
 | mk:∀c vc hp rp (hs:List Str) (rs:List Int),vs= [vc,.ref hp,.ref rp]->zI H c vc->c.ok hs->c.size<=100000->SqL K H hp (hs.map V.str)->SqL K H rp (rs.map V.int)->hs.length=rs.length->(∀H',zw H H'->Q (.bl (ev hs rs c)) H')->spHolds K vs H Q E
theorem yX:FnScope ["condition","heads","row","above","part","answer","over"] ["condition","heads","row"] (zj z6x):=by done
theorem zbT(F:Fun K "holds" "holds" z6x f fd)(T:Txt K mg)(R:TxtP K mg)(e:-Kn 2 "compared" ["comparison","heads","row"] (spCmp K)):-FnOk CX0 3 f fd ["condition","heads","row"] (spHolds K):=by
 clear yX F;obtain⟨c,O,N,rp,hs,rs,rfl,hc,ok,hz,h1,h2,hl,q⟩:=(h);obtain⟨cA,Al,sA⟩:=(R.cmp);intro ag A A3 sh hr;show(_,(zc (seT 3 yX (zD zb))
  (zc (seT 4 yX v0)
  (zc (seT 5 yX yn)
  (zc (z8Q (cmT z6s v4 z1b)
   (zc (z8Q (z0b kG (ixT v4 zd) (kD (v:= .ref cA) rfl Al rfl) (by with_unfolding_all rfl))
    (zc (jb (apP v3 (za v4 zb)))
    (zf (seT 4 yX (ixT v4 zd)))))
   (zc (seT 5 yX (jd e hr.m (za v4 (za v1 (za v2 zb)))))
   (zc (seT 4 yX z1b)
   (zf (z8Q (z3k (z1U v3 (λk=>rfl)) (cmT zff v4 z1b))
    (zc (seT 6 yX (z4T wR w0I w0J z4D v3))
    (zf (zG (cmT zO (ixT (pv 6) zd) zg)
     (zf (seT 5 yX (z8O v5)))
     (zf (zG (cmT zO v5 (cmE zO (ixT (pv 6) zd) zg))
      (zf (seT 4 yX (ixT (pv 6) zd)))
      zv)))))))))))
  (zf (zt v5)))))),?_)
 ac_rfl;show((by change 0<=AI;decide),λl hn=>?_);show !?_;have put:∀o,zw H (upd H l o):=λo=>zE hn o
 have rJ:∀{d:Cond} {v:V} (o:HO),zI H d v->zI (upd H l o) d v:=λo h=>h.mono (z09 hn)
 show z0D (λm σ H'=>∃(fs:List (V×Cond))(pv:V)(L:Bool)(J:Option V),σ= [AA O,AA (.ref N),AA (.ref rp),AA (.ref l),AA pv,AA (.bl L),J]/\H'=upd H l (.lst (fs.map (·.1)))/\
   (∀g∈fs,zI H g.2 g.1/\g.2.leaf=false/\g.2.ok hs)/\m<=c.size/\
   ((∃d,zI H d pv/\d.ok hs/\unw hs rs fs (ev hs rs d)=ev hs rs c/\m=d.size+wt fs)\/(pv= .non/\fs= []/\L=ev hs rs c/\m=0))) c.size
  ([],O,false,AB,rfl,rfl,λk z=>(by cases z),wy _,.inl (c,hc,ok,rfl,rfl)) ?_
 intro m σ H' zz;obtain⟨fs,pv,L,J,rfl,rfl,hf,hm,e7⟩:=(zz);rcases e7 with⟨d,hd,Am,ed,rfl⟩|⟨rfl,rfl,rfl,rfl⟩
 .-- the part is a condition
  obtain⟨pp,Fl,rfl,re⟩:=(hd.ref);show !(rfl,!?_);show ifT (by rfl) ?_;show zcC λD hN k=>?_
  show z0D (λm1 σ H'=>∃(i:List (V×Cond))(pv:V)(d1:Cond),σ= [AA O,AA (.ref N),AA (.ref rp),AA (.ref l),AA pv,AA (.bl L),J]/\H'=upd H l (.lst (i.map (·.1)))/\
   (∀g∈i,zI H g.2 g.1/\g.2.leaf=false/\g.2.ok hs)/\zI H d1 pv/\d1.ok hs/\unw hs rs i (ev hs rs d1)=ev hs rs c/\d1.size+wt i=d.size+wt fs/\m1=d1.size) d.size
   (fs,_,d,rfl,rfl,hf,hd,Am,ed,rfl,rfl) ?_
  intro m1 σ H' zz;obtain⟨i,Fm,d1,rfl,rfl,uo,G,Z,uq,Fo,rfl⟩:=(zz);have eK:(i.map (·.1)).length<sizeLine:=by
   rw[wa];show zH (by have:=zcw i;lia)
  obtain⟨p1,w1,ur,rfl,X,iw⟩:=(G.head);show !(zi (z09 hn _ _ X) zL (cA,!(.inr (sA _),rfl,rfl,!?_)));cases lf:d1.leaf with
  | false=>
   show ifT (by rw[iw,lf];rfl) ?_;show zcC λD2 hM k=>?_
   obtain⟨y,r,d2,rfl,S,U,n,a2⟩:=(G.down hs rs X lf Z);show !(.inl (rfl,_,SqL.of zm),!(l,_,!(rfl,zm,eK,?_)));show !(zi (by rw[z1A];show z09 hn _ _ X) jc ?_);have h3:1<=wgt d1:=by cases d1<;>simp only[wgt]<;>lia
   show hM _ _ (d2.size,∅,i++[(V.ref p1,d1)],y,d2,rfl,by rw[z1A,wT];rfl,?_,S,U,by rw[z7E,a2];show uq,by rw[za0];change d2.size+(wt i+wgt d1)=_;lia,rfl);intro g hg;rcases wA.mp hg with hg|hg
   .exact uo g hg
   .rw [wm.mp hg];show(G,lf,Z)
  | true=>
   show ifF (by rw[iw,lf];rfl) ?_;show !(!(!(d1,_,N,rp,hs,rs,rfl,rJ _ G,lf,Z,(put _).seq h1,(put _).seq h2,hl,?_)));have Fp:=d1.size_pos;show z0D (λm2 σ H'=>∃(j:List (V×Cond))(pv:V)(t:Bool)(M:Option V),σ= [AA O,AA (.ref N),AA (.ref rp),AA (.ref l),AA pv,AA (.bl t),M]/\H'=upd H l (.lst (j.map (·.1)))/\
    (∀g∈j,zI H g.2 g.1/\g.2.leaf=false/\g.2.ok hs)/\m2=j.length/\
    ((pv= .non/\unw hs rs j t=ev hs rs c/\wt j<d.size+wt fs)\/∃d2,zI H d2 pv/\d2.ok hs/\unw hs rs j (ev hs rs d2)=ev hs rs c/\d2.size+wt j<d.size+wt fs)) i.length
    (i,.non,_,J,rfl,rfl,uo,rfl,.inl (rfl,uq,∅)) ?_
   intro m2 σ H' zz;obtain⟨j,Fq,t,M,rfl,rfl,I,rfl,cW⟩:=(zz);show !(_,.inl (_,SqL.of zm,rfl),_,(!(rfl,!(rfl,rfl))),?_);rcases cW with⟨rfl,n,l2⟩|⟨d2,S,U,n,l2⟩
   .by_cases aF:j= []
    .subst aF;show ifF (by rfl) ?_;show hN _ _ (0,∅,[],.non,t,M,rfl,rfl,I,qN _,.inr (rfl,rfl,n,rfl))
    .obtain⟨gs,g,rfl⟩:=z6P aF;show ifT (by simp) ?_;show zcC λD3 B k=>?_
     obtain⟨hg,lg,og⟩:=(I g (wE _ (wm.mpr rfl)));have u:∀g'∈gs,zI H g'.2 g'.1/\g'.2.leaf=false/\g'.2.ok hs:=λg' h=>I g' (qj _ h)
     rw[z7E]at n;rw[za0]at l2;have C:gs.length<(gs++[g]).length:=by rw[wg,wZ];lia
     show !(.inl (rfl,_,SqL.of zm),l,_,g.1,rfl,rfl,zm,by rw[wT];show z37 _ _,?_);have eh:upd (upd H l (.lst ((gs++[g]).map (·.1)))) l (.lst (((gs++[g]).map (·.1)).dropLast))=upd H l (.lst (gs.map (·.1))):=by
      rw[z1A,wT]
      change upd H l (.lst ((gs.map (·.1)++[g.1]).dropLast))=_
      rw[w0P]
     rw[eh];obtain⟨gv,gc⟩:=g;cases gc with
     | less a b=>cases lg
     | same a b=>cases lg
     | no x=>
      obtain⟨p,y,ep,s,_⟩:=(hg);cases ep;show !(zi (z09 hn _ _ s) zL (rfl,!?_));show ifT () ?_;show !(!?_);show B _ _ (gs.length,C,gs,.non,not t,!(rfl,u,rfl,.inl (rfl,n,∅)))
     | an x y=>
      obtain⟨p,vx,Y,ep,s,hx,hy⟩:=(hg);cases ep;show !(zi (z09 hn _ _ s) zL (rfl,!?_));show ifF () ?_;show !(!(zi (z09 hn _ _ s) zL (rfl,rfl,!?_)));cases t with
      | true=>
       show ifT () ?_;show !(zi (z09 hn _ _ s) jD ?_);show B _ _ (gs.length,C,gs,Y,true,!(rfl,u,rfl,.inr (y,hy,og.2,n,by simp only[wgt]at l2;lia)))
      | false=>
       show ifF () ?_;show B _ _ (gs.length,C,gs,.non,false,!(rfl,u,rfl,.inl (rfl,n,∅)))
     | or x y=>
      obtain⟨p,vx,Y,ep,s,hx,hy⟩:=(hg);cases ep;show !(zi (z09 hn _ _ s) zL (rfl,!?_));show ifF () ?_;show !(!(zi (z09 hn _ _ s) zL (rfl,rfl,!?_)));cases t with
      | false=>
       show ifT () ?_;show !(zi (z09 hn _ _ s) jD ?_);show B _ _ (gs.length,C,gs,Y,false,!(rfl,u,rfl,.inr (y,hy,og.2,n,by simp only[wgt]at l2;lia)))
      | true=>
       show ifF () ?_;show B _ _ (gs.length,C,gs,.non,true,!(rfl,u,rfl,.inl (rfl,n,∅)))
   .obtain⟨p2,x2,rfl,bt⟩:=S.ref;show ifF (by simp) ?_;show hN _ _ (d2.size+wt j,l2,j,_,t,M,rfl,rfl,I,∅,.inl (d2,S,U,n,rfl))
 .-- no part is left
  show !(rfl,!?_);show ifF (by rfl) ?_;show !?_;show q _ (put _)
inductive Kid where
 | s (x:Side)|c (x:Cond)
def Kid.At(H:Hp)(k:V×Kid):Prop:=match k.2 with
 | .s x=>k.1=x.v
 | .c x=>zI H x k.1
noncomputable def Kid.cols:Kid->List Str
 | .s x=>x.cols
 | .c x=>x.cols
noncomputable def Kid.size:Kid->Nat
 | .s _=>0
 | .c x=>x.size
theorem zaX{v:V}(h:zI H c v):∃(p:AD)(w:Str)(ks:List (V×Kid)),v= .ref p/\H p=AA (.tup (.str w::ks.map (·.1)))/\ks.length<=2/\ks≠ []/\(∀k∈ks,Kid.At H k)/\(∀s,s∈c.cols↔∃k∈ks,s∈k.2.cols)/\(ks.map λk=>k.2.size).sum+1=c.size:=by
 cases c with
 | less a b=>
  obtain⟨p,rfl,h⟩:=(h);show(p,_,[(a.v,.s a),(b.v,.s b)],rfl,h,by simp,by simp,by simp[Kid.At],by simp[Cond.cols,Kid.cols],rfl)
 | same a b=>
  obtain⟨p,rfl,h⟩:=(h);show(p,_,[(a.v,.s a),(b.v,.s b)],rfl,h,by simp,by simp,by simp[Kid.At],by simp[Cond.cols,Kid.cols],rfl)
 | no c=>
  obtain⟨p,x,rfl,h,h1⟩:=(h);show(p,_,[(x,.c c)],rfl,h,by simp,by simp,by simpa [Kid.At]using h1,by simp[Cond.cols,Kid.cols],rfl)
 | an c d=>
  obtain⟨p,x,y,rfl,h,h1,h2⟩:=(h);show(p,_,[(x,.c c),(y,.c d)],rfl,h,by simp,by simp,by simpa [Kid.At]using (h1,h2),by simp[Cond.cols,Kid.cols],by simp[Kid.size,Cond.size])
 | or c d=>
  obtain⟨p,x,y,rfl,h,h1,h2⟩:=(h);show(p,_,[(x,.c c),(y,.c d)],rfl,h,by simp,by simp,by simpa [Kid.At]using (h1,h2),by simp[Cond.cols,Kid.cols],by simp[Kid.size,Cond.size])
theorem zaV(x:V)(r:List V):z1Q (x::r) (AA 1) AB=r:=by
 have e:HT.sIx (x::r).length 0 (AA 1)=1:=by
  have e:HT.sIx (x::r).length 0 (AA 1)=min 1 (r.length+1):=rfl;rw[e]
  lia
 unfold z1Q;rw[e]
 change(r.take ((r.length+1)-1))=r
 rw[Nat.add_sub_cancel,qP]
theorem za9(x:V)(r:List V):¬(HT.sIx (x::r).length 0 (AA 1)=0/\HT.sIx (x::r).length (x::r).length AB=(x::r).length):=by
 rintro⟨h,_⟩;have e:HT.sIx (x::r).length 0 (AA 1)=min 1 (r.length+1):=rfl;rw[e]at h
 lia
variable{ss:List Str}
theorem zcy{v:V}(b:kvs.map (·.1)=ss.map Sum.inr)(nd:ss.Nodup):
  ∃a:List Str,(putK kvs (Sum.inr n) v).map (·.1)=a.map Sum.inr/\a.Nodup/\∀s,s∈a↔s∈ss\/s=n:=by
 have mem:∀s,Sum.inr s∈kvs.map (·.1)↔s∈ss:=λs=>by
  rw[b];simp
 cases e:yd kvs (Sum.inr n:Key)with
 | some w=>
  have hn:n∈ss:=(mem n).mp (ze8 e);show(ss,?_,nd,λs=>(.inl,λh=>h.elim id λz=>z ▸ hn));unfold putK;rw[z0f,e];rw[Option.isSome_some,qc rfl,List.map_map,<-b];show List.map_congr_left λkv u=>?_
  change(if kv.1=Sum.inr n then(kv.1,v)else kv).1=kv.1
  split<;>rfl
 | none=>
  have hn:n∉ss:=λz=>zbk e ((mem n).mpr z)
  show(ss++[n],?_,z95 nd hn,λs=>by simp);rw[zcn v e,wT,b,wT]
  rfl
inductive spCols(K:W.Frag)(vs:List V)(H:Hp)(Q:VK)(E:XK):Prop
 | mk:∀c vc (us:List Str),vs= [vc]->zI H c vc->c.size<=1000->(∀s∈c.cols,s∈us)->us.length<=60->(∀(l:AD)(ss:List Str)(H':Hp),zw H H'->H' l=AA (.lst (ss.map V.str))->ss.Nodup->(∀s,s∈ss↔s∈c.cols)->ss.Pairwise leS->Q (.ref l) H')->spCols K vs H Q E
noncomputable def z1O(fs:List (V×Cond)):Nat:=(fs.map λi=>i.2.size).sum
theorem z5I(aa:List (V×Cond))(i:V×Cond):z1O (aa++[i])=z1O aa+i.2.size:=by simp[z1O]
theorem z7U:∀aa:List (V×Cond),aa.length<=z1O aa
 | []=>wy _
 | i::r=>by
  have h1:=z7U r;have h2:=i.2.size_pos;have a:z1O (i::r)=i.2.size+z1O r:=by simp[z1O]
  rw[a,wP]
  lia
theorem yY:FnScope ["condition","names","waiting","part","inner"] ["condition"] (zj z1D):=by done
theorem z5i(F:Fun K "columns_of" "columns_of" z1D f fd)(T:Txt K mg):-FnOk CX0 1 f fd ["condition"] (spCols K):=by
 clear yY F;obtain⟨c,N,us,rfl,hc,hz,dW,An,q⟩:=(h);intro ag A A3 sh hr;have hu:=z3O hr;show(_,(zc (seT 1 yY z2Z)
  (zc (seT 2 yY (zD (za v0 zb)))
  (zc (z8Q (z1U v2 (λW=>rfl))
   (zc (seT 3 yY (z4T wR w0I w0J z4D v2))
   (zf (foR (z3n (jy z4R v3 (jI zd) yf)) (gnM 4 yY)
    (zf (zG (jj (zM jw rfl T.isinstance wJ (za v4 (za (yK (v:= .ty "tuple") rfl T.tuple w0e rfl) zb))))
     (zf (jb (apP v2 (za v4 zb))))
     (zf (zG (jj (zM jw rfl T.isinstance wJ (za v4 (za (yK (v:= .ty "str") rfl T.str Qm rfl) zb))))
      (zf (z6Y hu v1 v4 yn rfl))
      zv))))))))
  (zf (zt (zM (z5c rfl) rfl T.sorted PyProof.Rows.boot_sorted (zP (pv 1) zb))))))),?_)
 ac_rfl;show λd hd=>?_
 show !((by change 1<=AI;decide),λwt S=>?_);have s1:=zE hd (.dK []);have s2:=zE S (.lst [N]);have fw:H wt=none:=s1.free S;have X:d≠wt:=zr (H:=upd H d (.dK [])) zm S;show z1S ?_;dsimp only;show z3j ?_;show z0D (λm σ H'=>∃(fs:List (V×Cond))(kvs:List (Key×V))(ss:List Str)(o3 o:Option V),σ= [AA N,AA (.ref d),AA (.ref wt),o3,o]/\zw H H'/\H' wt=AA (.lst (fs.map (·.1)))/\H' d=AA (.dK kvs)/\
   kvs.map (·.1)=ss.map Sum.inr/\ss.Nodup/\(∀g∈fs,zI H g.2 g.1)/\(∀s,s∈c.cols↔s∈ss\/∃g∈fs,s∈g.2.cols)/\m=z1O fs/\m<=c.size) c.size
  ([(N,c)],[],[],AB,AB,rfl,s1.trans s2,zm,s2 _ _ zm,rfl,List.nodup_nil,by simpa using hc,by simp,by simp[z1O],wy _) ?_
 intro m σ H' zz;obtain⟨fs,kvs,ss,o3,o,rfl,sH,O,fD,hk,nd,e,mem,rfl,hm⟩:=(zz);have rL:kvs.length=ss.length:=by
  have:=QG List.length hk
  rwa [wa,wa]at this
 have ut:∀{ss:List Str},ss.Nodup->(∀s,s∈ss->s∈c.cols)->ss.length<=60:=λnd h=>wG (kA nd λx I=>dW x (h x I)) An
 show !(_,.inl (_,SqL.of O,rfl),?_);by_cases aF:fs= []
 .subst aF;show ifF (by rfl) ?_;have c8:∀s,s∈ss↔s∈c.cols:=λs=>by rw[mem s];simp
  have Ao:=ut nd λs h=>(c8 s).mp h
  show !(d,kvs,ss,rfl,fD,hk,∅,λl cZ hl pm so=>?_);show q l cZ _ (sH.trans (zE hl _)) zm (pm.nodup_iff.mpr nd) (λs=>by rw[pm.mem_iff];show c8 s) (zaj so)
 .obtain⟨gs,g,rfl⟩:=z6P aF;show ifT (by simp) ?_;show zcC λD hN W=>?_
  obtain⟨R,b⟩:=g;rw[z5I]at hm hN;replace hm:z1O gs+b.size<=c.size:=hm;have hg:zI H b R:=e (R,b) (by simp);have hU:∀g∈gs,zI H g.2 g.1:=λg h=>e g (by simp[h])
  have e1:((gs++[Prod.mk R b]).map (·.1))=gs.map (·.1)++[R]:=by rw[wT];rfl
  rw[e1]at O;obtain⟨p,word,ks,rfl,hp,eZ,Fr,Ap,mY,Fs⟩:=(zaX hg);show !(.inl (rfl,_,SqL.of O),wt,~~~(O,z37 _ _,?_));have eh:upd H' wt (.lst ((gs.map (·.1)++[V.ref p]).dropLast))=upd H' wt (.lst (gs.map (·.1))):=by
   rw[w0P]
  rw[eh];have s3:zw H (upd H' wt (.lst (gs.map (·.1)))):=sH.put fw;have h3:upd H' wt (.lst (gs.map (·.1))) wt=AA (.lst (gs.map (·.1))):=zm;have d3:upd H' wt (.lst (gs.map (·.1))) d=AA (.dK kvs):=by rw[zn X];show fD
  generalize upd H' wt (.lst (gs.map (·.1)))=H3 at s3 h3 d3 ⊢;show !(!(p,!(SqT.of (s3 _ _ hp),za9 _ _,λt ht=>?_)));rw[zaV];have L:=zE ht (.tup (ks.map (·.1)));have h4:=L _ _ h3;have d4:=L _ _ d3;have t4:upd H3 t (.tup (ks.map (·.1))) t=AA (.tup (ks.map (·.1))):=zm;generalize upd H3 t (.tup (ks.map (·.1)))=H4 at L h4 d4 t4 ⊢;have uu:(ks.map (·.1)).length=ks.length:=wa _;show(t,rfl,(_,SqT.of t4),zbL (K:=K) (a:=t) (xs:=ks.map (·.1)) (λi σ r=>∃(fs:List (V×Cond))(kvs:List (Key×V))(ss:List Str)(o:Option V),σ= [AA N,AA (.ref d),AA (.ref wt),AA (.ref p),o]/\zw H r/\r t=AA (.tup (ks.map (·.1)))/\r wt=AA (.lst (fs.map (·.1)))/\r d=AA (.dK kvs)/\
   kvs.map (·.1)=ss.map Sum.inr/\ss.Nodup/\(∀g∈fs,zI H g.2 g.1)/\(∀s,s∈c.cols↔s∈ss\/(∃g∈fs,s∈g.2.cols)\/∃k∈ks.drop i,s∈k.2.cols)/\z1O fs+((ks.drop i).map λk=>k.2.size).sum+1=z1O gs+b.size)
   (gs,kvs,ss,o,rfl,s3.trans L,t4,h4,d4,hk,nd,hU,λs=>?_,by rw[w1E];lia) (λi σ r _ ⟨_,_,_,_,_,_,Y,_⟩=>SqT.of Y) ?_ ?_)
  .rw [mem s,w1E];constructor
   .rintro(h|⟨g,hg,h⟩)
    .exact .inl h
    .rcases wA.mp hg with hg|hg
     .exact .inr (.inl (g,hg,h))
     .rw [wm.mp hg]at h;show .inr (.inr ((mY s).mp h))
   .rintro(h|⟨g,hg,h⟩|h)
    .exact .inl h
    .exact .inr (g,qj _ hg,h)
    .exact .inr ((V.ref p,b),by simp,(mY s).mpr h)
  .rintro i x σ r D2 Z _ hi ⟨fs,kvs,ss,o,rfl,G,C,w5,B,hk,nd,e,mem,u⟩;have U:i<ks.length:=by
    have:=(we.mp hi).1
    rwa [uu]at this
   have I:x=ks[i].1:=by
    rw[wK,wb U]at hi;show(Option.some.inj hi).symm
   have uw:ks.drop i=ks[i]::ks.drop (i+1):=w01 U;have M:=Ap ks[i] (wz U);obtain⟨⟨kv,kk⟩,Aq⟩:∃k,ks[i]=k:=(_,rfl)
   rw[Aq]at I M uw;replace I:kv=x:=I.symm;subst I;rw[uw]at mem u;have rL:kvs.length=ss.length:=by
    have:=QG List.length hk
    rwa [wa,wa]at this
   have Ao:=ut nd λs h=>(mem s).mpr (.inl h)
   have nM:=z7U fs;have rM:((kv,kk)::ks.drop (i+1)).map (λk=>k.2.size)=kk.size::(ks.drop (i+1)).map (λk=>k.2.size):=rfl;rw[rM,List.sum_cons]at u;cases kk with
   | c y=>
    have J:zI H y kv:=M
    obtain⟨p2,x2,rfl,bt⟩:=(J.ref);show !(_,_,_,!(TyOf.tup (G _ _ bt),yJ,!?_));show z8z ?_;show !(.inl (rfl,_,SqL.of w5),!(wt,~~~(w5,zH (by rw[wa];lia),?_)));have tw:t≠wt:=z3K C w5 (by intro z;cases z);show Z _ _ (fs++[(V.ref p2,y)],kvs,ss,!(G.put fw,by rw[zn tw];show C,by rw[zm,wT];rfl,by rw[zn X];show B,hk,nd,λg hg=>?_,λs=>?_,?_))
    .rcases wA.mp hg with hg|hg
     .exact e g hg
     .rw [wm.mp hg];show J
    .rw [mem s];simp only[wF,wA,qh,QE];constructor
     .rintro(h|⟨g,hg,h⟩|⟨k,rfl|hk,h⟩)
      .exact .inl h
      .exact .inr (.inl (g,.inl hg,h))
      .exact .inr (.inl (_,.inr rfl,h))
      .exact .inr (.inr (k,hk,h))
     .rintro(h|⟨g,hg|rfl,h⟩|⟨k,hk,h⟩)
      .exact .inl h
      .exact .inr (.inl (g,hg,h))
      .exact .inr (.inr (_,.inl rfl,h))
      .exact .inr (.inr (k,.inr hk,h))
    .rw [z5I]
     change z1O fs+y.size+_+1=_
     have:(Kid.c y).size=y.size:=rfl
     lia
   | s y=>
    cases y with
    | nm n=>
     have J:kv=V.str n:=M
     subst J;show !(_,_,_,!(TyOf.str n,z5k,!?_));show z8c ?_;show !(_,_,_,!(TyOf.str n,yJ,!?_));show z8z ?_;show !(!(d,!(z8o.k (k:=Sum.inr n) B (zH ∅),?_)));obtain⟨cZ,iB,oo,rN⟩:=(zcy (n:=n) (v:=V.bl true) hk nd);have td:t≠d:=z3K C B (by intro z;cases z);have fd:H d=none:=hd;show Z _ _ (fs,_,cZ,!(G.put hd,by rw[zn td];show C,by rw[zn X.symm];show w5,zm,iB,oo,e,λs=>?_,?_))
     .rw [mem s,rN s];simp only[wF];constructor
      .rintro(h|h|⟨k,rfl|hk,h⟩)
       .exact .inl (.inl h)
       .exact .inr (.inl h)
       .exact .inl (.inr (by simpa [Kid.cols,Side.cols]using h))
       .exact .inr (.inr (k,hk,h))
      .rintro((h|rfl)|h|⟨k,hk,h⟩)
       .exact .inl h
       .exact .inr (.inr (_,.inl rfl,by simp[Kid.cols,Side.cols]))
       .exact .inr (.inl h)
       .exact .inr (.inr (k,.inr hk,h))
     .have:(Kid.s (.nm n)).size=0:=rfl
      lia
    | nu j=>
     have J:kv=V.int j:=M
     subst J;show !(_,_,_,!(TyOf.int j,z5s,!?_));show z8c ?_;show !(_,_,_,!(TyOf.int j,z1W,!?_));show z8c ?_;show Z _ _ (fs,kvs,ss,!(G,C,w5,B,hk,nd,e,λs=>?_,?_))
     .rw [mem s];simp only[wF];constructor
      .rintro(h|h|⟨k,rfl|hk,h⟩)
       .exact .inl h
       .exact .inr (.inl h)
       .exact absurd h (by simp[Kid.cols,Side.cols])
       .exact .inr (.inr (k,hk,h))
      .rintro(h|h|⟨k,hk,h⟩)
       .exact .inl h
       .exact .inr (.inl h)
       .exact .inr (.inr (k,.inr hk,h))
     .have:(Kid.s (.nu j)).size=0:=rfl
      lia
  .rintro σ r ⟨fs,kvs,ss,o,rfl,G,C,w5,B,hk,nd,e,mem,u⟩;have cK:ks.drop (ks.map (·.1)).length= []:=by rw[uu,List.drop_length]
   rw[cK]at mem u;replace u:z1O fs+0+1=z1O gs+b.size:=u;show hN _ _ (z1O fs,by change z1O fs<z1O gs+b.size;lia,fs,kvs,ss,_,!(G,w5,B,hk,nd,e,λs=>by rw[mem s];simp,rfl,∅))
inductive spJoined(K:W.Frag)(vs:List V)(H:Hp)(Q:VK)(E:XK):Prop
 | mk:∀a b rs os s t w1 w2,vs= [.ref a,.ref b,.int s,.int t]->RowsAt H a rs->RowsAt H b os->0<=s->0<=t->Wid w1 rs->Wid w2 os->s.toNat<w1->t.toNat<w2->w1+w2<=200->rs.length*os.length<=900000->os.length<=900000->(∀(p:AD)(qs:List (AD×List Int))(H':Hp),zw H H'->RowsAt H' p qs->Wid (w1+w2) qs->qs.length<=rs.length*os.length->Q (.ref p) H')->spJoined K vs H Q E
def z81{s:Int}(h0:0<=s)(h:s.toNat<x.length):atI (x.map V.int) s=AA (.int (x.getD s.toNat 0)):=z9T h0 (int_at h)
structure Gath(H H':Hp)(dp:AD)(kvs:List (Key×V))(os:List (AD×List Int))(n:Nat):Prop where
 same:zw H H'
 free:H dp=AB
 dict:H' dp=AA (.dK kvs)
 len:kvs.length<=n
 yes:∀(z:Int) v,yd kvs (.inl z)=AA v->∃p fs,v= .ref p/\H' p=AA (.lst (refs fs))/\Sub os n fs/\H p=AB
theorem Gath.new{n:Nat}(g:Gath H H' dp kvs os n)(s:zw H' H1):Gath H H1 dp kvs os n:=
 (g.same.trans s,g.free,s _ _ g.dict,g.len,λz v e=>let ⟨p,fs,a,b,c⟩:=g.yes z v e;(p,fs,a,s _ _ b,c))
theorem zah{r:AD×List Int}:refs (rs++[r])=refs rs++[V.ref r.1]:=by simp[refs]
theorem Gath.more{fs:List (AD×List Int)}{n:Nat}(g:Gath H H' dp kvs os n)(d:H' p=AA (.lst (refs fs)))(e:Sub os n fs)(fp:H p=AB)(c:o∈os):
  Gath H (upd H' p (.lst (refs fs++[V.ref o.1]))) dp kvs os (n+1):=by
 show(g.same.put fp,g.free,?_,Nat.le_succ_of_le g.len,λz v hz=>?_)
 .rw [zn (z3K g.dict d (by intro z;cases z))];show g.dict
 .obtain⟨q,gs,rfl,b,hs,a⟩:=g.yes z v hz;by_cases dN:q=p
  .subst dN;show(q,fs++[o],rfl,by rw[zm,zah],e.on c,a)
  .exact(q,gs,rfl,by rw[zn dN];show b,hs.up (w0L _),a)
theorem Gath.first{n:Nat}{k:Int}(g:Gath H H' dp kvs os n)(hn:H' p=AB)(c:o∈os)(h1:zw H' H1):
  Gath H (upd (upd H1 dp (.dK (putK kvs (.inl k) (.ref p)))) p (.lst [V.ref o.1])) dp (putK kvs (.inl k) (.ref p)) os (n+1):=by
 have h:dp≠p:=zr g.dict hn;have a:=g.new h1;show((a.same.put g.free).put (g.same.free hn),g.free,by rw[zn h,zm],?_,λz v hz=>?_)
 .have:=ku kvs (.inl k) (.ref p);have:=g.len
  lia
 .rw [z57]at hz;split at hz
  .cases hz;show(p,[o],rfl,by rw[zm];rfl,(Sub.nil.on c).up ∅,g.same.free hn)
  .obtain⟨q,gs,rfl,b,hs,f⟩:=a.yes z v hz;obtain⟨q',_,e,d,_⟩:=(g.yes z _ hz);cases e;show(q,gs,rfl,by rw[zn (zr d hn),zn (z3K b a.dict (by intro z;cases z))];show b,hs.up (w0L _),f)
theorem z0G:FnScope ["rows","others","spot","place","gathered","other","found","row"] ["rows","others","spot","place"] (zj z5a):=by done
theorem zax(F:Fun K "joined" "joined" z5a f fd)(T:Txt K mg):-FnOk CX0 1 f fd ["rows","others","spot","place"] (spJoined K):=by
 clear z0G F;obtain⟨a,b,rs,os,s,t,w1,w2,rfl,ha,U,s0,t0,W1,W2,sw,tw,ww,oa,Ft,q⟩:=(h);have eT:∀r∈os,t.toNat<r.2.length/\r.2.length=w2:=λr m=>(by rw[W2.e r m];show tw,W2.e r m)
 have ux:∀r∈rs,s.toNat<r.2.length/\r.2.length=w1:=λr m=>(by rw[W1.e r m];show sw,W1.e r m)
 intro ag A A3 sh hr;have hu:=z3O hr;show(_,(zc (seT 4 z0G z2Z)
  (zc (foR (zW v1) (gnM 5 z0G)
   (zf (jb (apP (z8n v4 (ixL v5 v3) (zD zb) (rfl,rfl,rfl,rfl)) (za v5 zb)))))
  (zc (seT 6 z0G (zD zb))
  (zc (foR (zW v0) (gnM 7 z0G)
   (zf (foR (zW (z4G hu v4 (ixL (pv 7) v2) (zD zb) (rfl,rfl,rfl,rfl))) (gnM 5 z0G)
    (zf (jb (apP (pv 6) (yp (zq ju (pv 7) v5) zb)))))))
  (zf (zt (pv 6))))))),?_)
 ac_rfl;have aI:(refs rs).length=rs.length:=wa _;have cY:(refs os).length=os.length:=wa _;have z0:0<=sizeLine:=by decide
 show λdp eX=>?_
 have s1:=zE eX (.dK []);show !(b,rfl,(_,SqL.of (s1 _ _ U.1)),z1s (K:=K) (a:=b) (xs:=refs os) (λj σ H'=>∃(kvs:List (Key×V))(c:Option V),σ= [AA (.ref a),AA (.ref b),AA (.int s),AA (.int t),AA (.ref dp),c,AB,AB]/\Gath H H' dp kvs os j/\j<=os.length)
  ([],AB,rfl,(s1,eX,zm,wy _,λz v e=>(by cases e)),qN _) (λi σ H' _ ⟨_,_,_,g,_⟩=>SqL.of (g.same _ _ U.1)) ?_ ?_)
 .rintro j x σ H2 D X _ C ⟨kvs,c,rfl,g,_⟩;have n:j<os.length:=by
   have:=(we.mp C).1
   rwa [cY]at this
  rw[y7 n]at C;cases C;obtain⟨eV,gk⟩:=eT _ (wz n);have Z:=g.same _ _ (U.2 _ (wz n)).2;show !(dp,rfl,.inl (_,.inl g.dict),!(!(zy Z (z81 t0 eV) (z0,λnp I=>?_))));have d:=zE I (.lst []);have np1:upd H2 np (.lst []) np=AA (.lst []):=zm;generalize upd H2 np (.lst [])=H3 at d np1 ⊢;have J:=g.new d;show(kvs,.inl (os[j].2.getD t.toNat 0),J.dict,rfl,zH (by have:=g.len;lia),λv R=>?_,λR=>?_)
  .obtain⟨p,fs,rfl,o,u,fp⟩:=J.yes _ _ R;show(.inl (rfl,_,SqL.of o),!(p,~~~(o,zH (by rw[wa];have:=u.l;lia),?_)));show X _ _ (kvs,!(J.more o u fp (wz n),n))
  .have oq:np≠dp:=(zr g.dict I).symm;show(.inl (rfl,_,SqL.of (by rw[zn oq];show np1)),!(np,~~~(by rw[zn oq];show np1,zH (),?_)));show X _ _ (putK kvs (.inl (os[j].2.getD t.toNat 0)) (.ref np),!(g.first I (wz n) d,n))
 .rintro σ H2 ⟨kvs,c,rfl,g,_⟩;rw[cY]at g;show(z0,λfp Y=>?_);have f1:=zE Y (.lst []);have uy:upd H2 fp (.lst []) fp=AA (.lst []):=zm;generalize upd H2 fp (.lst [])=H3 at f1 uy ⊢;have J:=g.new f1;have Fu:H fp=none:=g.same.free Y;show !(a,rfl,(_,SqL.of (J.same _ _ ha.1)),z1s (K:=K) (a:=a) (xs:=refs rs) (λi σ H'=>∃(ds:List (AD×List Int))(c o7:Option V),σ= [AA (.ref a),AA (.ref b),AA (.int s),AA (.int t),AA (.ref dp),c,AA (.ref fp),o7]/\zw H2 H'/\RowsAt H' fp ds/\
   Wid (w1+w2) ds/\ds.length<=i*os.length) ([],c,AB,rfl,f1,yG uy,⟨λW z=>(by cases z)⟩,qN _) (λi σ H' _ ⟨_,_,_,_,sm,_⟩=>SqL.of (sm _ _ (g.same _ _ ha.1))) ?_ ?_)
  .rintro i x σ S D X _ hi ⟨ds,c,o7,rfl,O,hd,B,G⟩;have M:i<rs.length:=by
    have:=(we.mp hi).1
    rwa [aI]at this
   rw[y7 M]at hi;cases hi;obtain⟨fF,cL⟩:=ux _ (wz M);have g4:=g.new O;have hR:=g4.same _ _ (ha.2 _ (wz M)).2;show !(dp,rfl,.inl (_,.inl g4.dict),!(!(zy hR (z81 s0 fF) (z0,λnp I=>?_))));have d:=zE I (.lst []);have np1:upd S np (.lst []) np=AA (.lst []):=zm;generalize upd S np (.lst [])=H5 at d np1 ⊢;have g5:=g4.new d;have s5:=O.trans d;have Ar:=hd.same d;show(_,z40.k (k:= .inl (rs[i].2.getD s.toNat 0)) g5.dict,?_);obtain⟨p,fs,ep,o,iF,u⟩:∃p fs,(yd kvs (.inl (rs[i].2.getD s.toNat 0))).getD (.ref np)= .ref p/\H5 p=AA (.lst (refs fs))/\p≠fp/\Sub os os.length fs:=by
    cases R:yd kvs (.inl (rs[i].2.getD s.toNat 0))with
    | none=>show(np,[],rfl,np1,(zr hd.1 I).symm,Sub.nil.up (qN _))
    | some v=>
     obtain⟨p,fs,rfl,o,u,_⟩:=(g.yes _ _ R);show(p,fs,rfl,s5 _ _ o,zr o Y,u)
   rw[ep];have uz:(refs fs).length=fs.length:=wa _;have hF:=u.m;have lF:=u.l;have hm:i*os.length+os.length<=900000:=wG (by rw[<-Nat.succ_mul];show QD _ M) oa;show(p,rfl,(_,SqL.of o),z1s (K:=K) (a:=p) (xs:=refs fs) (λj σ H'=>∃(ds:List (AD×List Int))(c:Option V),σ= [AA (.ref a),AA (.ref b),AA (.int s),AA (.int t),AA (.ref dp),c,AA (.ref fp),AA (.ref rs[i].1)]/\zw H2 H'/\H' p=AA (.lst (refs fs))/\RowsAt H' fp ds/\
    Wid (w1+w2) ds/\ds.length<=i*os.length+j)
    (ds,c,rfl,s5,o,Ar,B,∅) (λj σ H' _ ⟨_,_,_,_,z,_⟩=>SqL.of z) ?_ ?_)
   .rintro j y σ H6 D2 hM _ C ⟨ds,c,rfl,L,gb,hd,B,G⟩;have n:j<fs.length:=by
     have:=(we.mp C).1
     rwa [uz]at this
    rw[y7 n]at C;cases C;have mo:=hF _ (wz n);obtain⟨eV,gk⟩:=eT _ mo;have hR:=L _ _ (g.same _ _ (ha.2 _ (wz M)).2);have Z:=L _ _ (g.same _ _ (U.2 _ mo).2);show !(.inl (rfl,_,SqL.of hd.1),!(!(_,_,~~~(hR,Z,zR (by rw[wa,wa];lia),λq1 N=>?_))));have d:=zE N (.lst (rs[i].2.map V.int++fs[j].2.map V.int));have df:=hd.same d;show(fp,~~~(df.1,zH (by rw[wa];lia),?_));have nq:q1≠fp:=(zr hd.1 N).symm;show hM _ _ (ds++[(q1,rs[i].2++fs[j].2)],!((L.trans d).put Y,by rw[zn iF];show d _ _ gb,df.push nq (by rw[zm,wT]),⟨λr m=>(wA.mp m).elim (B.e r) λz=>by rw[wm.mp z];change(_++_:List Int).length=_;rw[wg,cL,gk]⟩,by rw[wg,wZ];lia))
   .rintro σ H6 ⟨ds,c,rfl,L,gb,hd,B,G⟩;show X _ _ (ds,_,!(L,hd,B,by rw[uz]at G;rw[Nat.succ_mul];lia))
  .rintro σ S ⟨ds,c,o7,rfl,O,hd,B,G⟩;show !(q fp ds S (g.same.trans O) hd B (by rw[aI]at G;show G))
def z6W(m:List (Key×V)):Prop:=∀p∈m,∃k i:Int,p=(Prod.mk (.inl k:Key) (V.int i))
theorem z6W.put{m:List (Key×V)}{k i:Int}(h:z6W m):z6W (putK m (.inl k) (.int i)):=λp hp=>by
 unfold putK at hp;split at hp
 .obtain⟨x,c,rfl⟩:=Q0.mp hp;obtain⟨a,b,rfl⟩:=h x c;split
  .exact(a,i,rfl)
  .exact(a,b,rfl)
 .rcases wA.mp hp with hp|hp
  .exact h p hp
  .rw [wm.mp hp];show(k,i,rfl)
theorem z6W.val{m:List (Key×V)}{v:V}(h:z6W m)(e:yd m (.inl z)=AA v):∃i,v= .int i:=by
 unfold yd at e;obtain⟨p,a,rfl⟩:=Option.map_eq_some_iff.mp e;obtain⟨k,i,rfl⟩:=h p (List.mem_of_find?_eq_some a);show(i,rfl)
theorem z6W.cur{m:List (Key×V)}{k:Int}(h:z6W m):∃c,(yd m (.inl k)).getD (.int 0)=V.int c:=by
 cases e:yd m (.inl k)with
 | none=>show(0,rfl)
 | some v=>obtain⟨i,rfl⟩:=h.val e;show(i,rfl)
theorem zdn{m:List (Key×V)}{k:Int}{v:V}(h:((.inl k:Key),v)∈m):yd m (.inl k)≠none:=λe=>by
 unfold yd at e;rw[Option.map_eq_none_iff,List.find?_eq_none]at e;show e _ h (qd rfl)
structure Grp(H H':Hp)(mp tp:AD)(m t:List (Key×V))(n:Nat):Prop where
 same:zw H H'
 dm:H' mp=AA (.dK m)
 dt:H' tp=AA (.dK t)
 lm:m.length<=n
 lt:t.length<=n
 km:z6W m
 kt:z6W t
 mt:∀z:Int,yd m (.inl z)≠AB->yd t (.inl z)≠AB
inductive spGrouped(K:W.Frag)(vs:List V)(H:Hp)(Q:VK)(E:XK):Prop
 | mk:∀a rs s t w,vs= [.ref a,.int s,.int t]->RowsAt H a rs->0<=s->0<=t->Wid w rs->s.toNat<w->t.toNat<w->rs.length<=900000->(∀(p:AD)(qs:List (AD×List Int))(H':Hp),zw H H'->RowsAt H' p qs->Wid 3 qs->qs.length<=rs.length->Q (.ref p) H')->spGrouped K vs H Q E
theorem z0O:FnScope ["rows","spot","place","many","total","row","number"] ["rows","spot","place"] (zj z2e):=by done
theorem z8e(F:Fun K "grouped" "grouped" z2e f fd)(T:Txt K mg):-FnOk CX0 2 f fd ["rows","spot","place"] (spGrouped K):=by
 clear z0O F;obtain⟨a,rs,s,t,w,rfl,ha,s0,t0,hw,sw,tw,oa,q⟩:=(h);intro ag A A3 sh hr;have o:=z3O hr;show(_,(zc (yU (i:=3) z0O.nd rfl (QO rfl) z2Z)
  (zc (yU (i:=4) z0O.nd rfl (QO rfl) z2Z)
  (zc (foR (zW v0) (gnM 5 z0O)
   (zc (seT 6 z0O (ixL v5 v1))
   (zc (z6Y o v3 (pv 6) (zq yC (z4G o v3 (pv 6) zd (rfl,rfl,rfl,rfl)) zd) rfl)
   (zf (z6Y o v4 (pv 6) (zq yC (z4G o v4 (pv 6) zd (rfl,rfl,rfl,rfl)) (ixL v5 v2)) rfl)))))
  (zf (zt (jH rfl (CompSc.of (sx:=zj z2e) (NX:= ["rows","spot","place","many","total","row","number"]) (fr:= ["many","total"]) (ix:= [3,4]) rfl rfl ()) (zdG v3) (λv v v v v v=>jm) (λv v v v v v=>(zD (za v0 (zp (z9U o v1 v0 (λv v=>rfl)) (zp (z9U o v2 v0 (λv v=>rfl)) zb))))))))))),?_)
 ac_rfl;have aI:(refs rs).length=rs.length:=wa _;show λmp X=>?_
 have Z:=zE X (.dK []);have O:upd H mp (.dK []) mp=AA (.dK []):=zm;generalize upd H mp (.dK [])=H1 at Z O ⊢;show λtp R=>?_
 have N:=zE R (.dK []);have uA:upd H1 tp (.dK []) tp=AA (.dK []):=zm;have U:mp≠tp:=zr O R;have As:H tp=none:=Z.free R;have uB:=N _ _ O;generalize upd H1 tp (.dK [])=H2 at N uA uB ⊢;have sm:=Z.trans N;show !(a,rfl,(_,SqL.of (sm _ _ ha.1)),z25 (K:=K) (a:=a) (xs:=refs rs) (λi σ H'=>∃(m u:List (Key×V))(o5 Y:Option V),σ= [AA (.ref a),AA (.int s),AA (.int t),AA (.ref mp),AA (.ref tp),o5,Y]/\Grp H H' mp tp m u i)
  ([],[],AB,AB,rfl,(sm,uB,uA,wy _,wy _,λv z=>(by cases z),λv z=>(by cases z),λz h=>absurd rfl h)) (λi σ H' _ ⟨_,_,_,_,_,g⟩=>SqL.of (g.same _ _ ha.1)) ?_ ?_)
 .rintro i x σ c hi ⟨m,u,o5,Y,rfl,g⟩;have G:i<rs.length:=by
   have:=(we.mp hi).1
   rwa [aI]at this
  rw[y7 G]at hi;cases hi;have hr:=hw.e _ (wz G);have hR:=g.same _ _ (ha.2 _ (wz G)).2;obtain⟨C,D⟩:=g.km.cur (k:=rs[i].2.getD s.toNat 0);obtain⟨c2,I⟩:=g.kt.cur (k:=rs[i].2.getD s.toNat 0);have lm:=g.lm;have lt:=g.lt;show !(!(zy hR (z81 s0 ∅) ?_));show !(mp,rfl,.inl (_,.inl g.dm),!(_,z40.k (k:= .inl (rs[i].2.getD s.toNat 0)) g.dm,C,1,D,rfl,!(!(mp,!(z8o.k (k:= .inl (rs[i].2.getD s.toNat 0)) g.dm (zH ∅),?_)))));have l1:=ku m (.inl (rs[i].2.getD s.toNat 0)) (.int (C+1));have k1:=g.km.put (k:=rs[i].2.getD s.toNat 0) (i:=C+1);have v1:=λz:Int=>z57 m (.inl (rs[i].2.getD s.toNat 0)) (.inl z) (.int (C+1))
  generalize putK m (.inl (rs[i].2.getD s.toNat 0)) (.int (C+1))=m' at l1 k1 v1 ⊢;have y:upd c mp (.dK m') mp=AA (.dK m'):=zm;have j:upd c mp (.dK m') tp=AA (.dK u):=(zn U.symm).trans g.dt;have M:zw H (upd c mp (.dK m')):=g.same.put X;generalize upd c mp (.dK m')=H4 at y j M ⊢;have Au:=M _ _ (ha.2 _ (wz G)).2;show !(tp,rfl,.inl (_,.inl j),!(_,z40.k (k:= .inl (rs[i].2.getD s.toNat 0)) j,!(!(zy Au (z81 t0 ∅) (c2,_,I,rfl,!(!(tp,!(z8o.k (k:= .inl (rs[i].2.getD s.toNat 0)) j (zH ∅),?_))))))));show(m',_,_,!(M.put As,by rw[zn U];show y,zm,∅,wG (ku _ _ _) ∅,k1,g.kt.put,λz hz=>?_));rw[v1]at hz;rw[z57];split
  .exact nofun
  .next h=>rw[wW h]at hz;show g.mt z hz
 .rintro σ c ⟨m,u,o5,Y,rfl,g⟩;rw[aI]at g;show !(mp,!(g.dm,λn=>?_));have sf:zw H (upd c mp (.frz n (.dK m))):=g.same.put X;have y:upd c mp (.frz n (.dK m)) mp=AA (.frz n (.dK m)):=zm;have j:upd c mp (.frz n (.dK m)) tp=AA (.dK u):=(zn U.symm).trans g.dt;generalize upd c mp (.frz n (.dK m))=H4 at sf y j ⊢;have lm:=g.lm;show z8P (λi ys H'=>zw H4 H'/\∃b:List (AD×List Int),ys=refs b/\b.length=i/\(∀r∈b,H' r.1=AA (.lst (r.2.map V.int)))/\Wid 3 b) (zw.refl _,[],rfl,rfl,λv z=>(by cases z),⟨λv z=>(by cases z)⟩) ?_ ?_ ?_
  .rintro i ys H' hi ⟨d,b,rfl,L,_,_⟩;show(d _ _ y,zH (by rw[wa];lia))
  .rintro i p ys H' hi ⟨d,b,rfl,L,J,rQ⟩;have mem:=qB hi;obtain⟨k,i0,rfl⟩:=(g.km p mem);have nm:=zdn mem;obtain⟨v1,D⟩:=Option.ne_none_iff_exists'.mp nm;obtain⟨v2,I⟩:=Option.ne_none_iff_exists'.mp (g.mt k nm);obtain⟨j1,rfl⟩:=g.km.val D;obtain⟨S,rfl⟩:=g.kt.val I;have g1:z40 H' mp (.int k) (AA (V.int j1)):= .inl (m,.inl k,.inr (n,d _ _ y),rfl,D.symm);have g2:z40 H' tp (.int k) (AA (V.int S)):= .inl (u,.inl k,.inl (d _ _ j),rfl,I.symm);show !(!(!(mp,!(g1,!(!(tp,!(g2,zR (by change 3<=1000000;decide),λl hl=>?_)))))));have B:=zE hl (.lst [V.int k,V.int j1,V.int S]);show(d.trans B,b++[(l,[k,j1,S])],by simp[refs],by rw[wg,L];rfl,λr mm=>?_,⟨λr mm=>?_⟩)
   .rcases wA.mp mm with mm|mm
    .exact B _ _ (J r mm)
    .rw [wm.mp mm];show zm
   .rcases wA.mp mm with mm|mm
    .exact rQ.e r mm
    .rw [wm.mp mm];rfl
  .rintro ys H' ⟨d,b,rfl,L,J,rQ⟩ p hp;have B:=zE hp (.lst (refs b));show q p b _ ((sf.trans d).trans B) (zm,λr m=>(zr (J r m) hp,B _ _ (J r m))) rQ (by rw[L];show g.lm)
noncomputable def z4g:Pos:=match jN z0R with
 | [.Return (AA (.Call _ _ [(_,.Lambda _ _ _ p,_)] _)) _]=>p
 | _=>(0,0,0,0)
noncomputable abbrev zbV:Str:=Str.ofString "in_order" ++ ".<locals>." ++ "<lambda>"
inductive spOrder(K:W.Frag)(Tb:AD)(vs:List V)(H:Hp)(Q:VK)(E:XK):Prop
 | mk:∀a rs s w,vs= [.ref a,.int s]->RowsAt H a rs->0<=s->Wid w rs->s.toNat<w->rs.length<=900000->jR H Tb z4g zbV->(∀(p:AD)(qs:List (AD×List Int))(H':Hp),Kp Tb H H'->jR H' Tb z4g zbV->RowsAt H' p qs->Wid w qs->qs.length<=rs.length->Q (.ref p) H')->spOrder K Tb vs H Q E
theorem z7u:FnScope ["rows","spot"] ["rows","spot"] (zj z0R):=by done
theorem z80{c:AD}(F:Fun K "in_order" "in_order" z0R f fd)(T:Txt K mg)(hc:fd.code= .ref c)(C:PySem.W.CodeHd base c Tb)(B:base.BuiltinsAt mg Tb):-FnOk CX0 3 f fd ["rows","spot"] (spOrder K Tb):=by
 show F.okC z7u (λvs H Q E h=>?_) (λA A3 s H vs Q E J h=>?_)
 .obtain⟨a,rs,s,w,rfl,_⟩:=h
  rfl
 obtain⟨a,rs,s,w,rfl,ha,N,y,M,S,u,q⟩:=h;show(_,(zf (zt (z7h (T:=Tb) (c:=c) rfl J rfl T.sorted (pv 0) hc C B (CompSc.of (x:="row") (sx:=zj z0R) (NX:= ["rows","spot"]) (fr:= ["spot"]) (ix:= [1]) rfl rfl ()) (λk k k k k=>(yw (yF (K:=K) rfl) (pv 0) (pv 1) (λk k=>rfl)))))),?_);have G:(refs rs).length=rs.length:=wa _;have I:∀r∈rs,r.1≠Tb:=λr m=>u.ne (ha.2 r m).2 λps z=>by cases z
 show !(a,refs rs,rs.map (λr=>r.2.getD s.toNat 0),rfl,.inl ha.1,∅,by rw[wa,wa],u,λH2 k2 i v o=>?_,λO H2 D d k2 R p pm mem=>?_)
 .have b:i<rs.length:=by
   have:=(we.mp o).1
   rwa [G]at this
  rw[y7 b]at o;cases o;have j:=k2 _ _ (I _ (wz b)) (ha.2 _ (wz b)).2;show !(!(zy j (z81 N (by rw[y.e _ (wz b)];show M)) (?_,rfl)));rw[wx (l:=rs.map _),wK,wb b]
  rfl
 .rw [G]at pm mem;have n:=zE p (.lst (d.map λi=>(refs rs).getD i .non));have t:∀i∈d,∃h:i<rs.length,rs.getD i (0,[])=rs[i]:=λi hi=>(mem i hi,by rw[wx,wb (mem i hi)];rfl)
  have L:(d.map λi=>(refs rs).getD i .non)=refs (d.map λi=>rs.getD i (0,[])):=by
   unfold refs;rw[List.map_map];show List.map_congr_left λi hi=>?_
   have b:=mem i hi
   change _=V.ref (rs.getD i (0,[])).1
   rw[wx,wK,wb b,wx,wb b]
   rfl
  show q D (d.map λi=>rs.getD i (0,[])) _ (k2.trans n.kp) (jR.same (.inr (O,R)) n) (by rw[zm,L],λr m=>?_) ⟨λr m=>?_⟩ (by rw[wa,pm];show wy _)
  .obtain⟨i,hi,rfl⟩:=Q0.mp m;obtain⟨b,e⟩:=t i hi;rw[e];have j:=k2 _ _ (I _ (wz b)) (ha.2 _ (wz b)).2;show(zr j p,n _ _ j)
  .obtain⟨i,hi,rfl⟩:=Q0.mp m;obtain⟨b,e⟩:=t i hi;rw[e];show y.e _ (wz b)
theorem zcV{n:Nat}(h:n<=9000000):n<=sizeLine:=by
 have:AI=16777216:=Qp
 lia
theorem z3e{n:Nat}(h:n<=9000000):n<sizeLine:=by
 have:AI=16777216:=Qp
 lia
noncomputable def kids:Qn->List Qn
 | .table _=> []
 | .pick _ q | .cols _ q | .first _ q | .group _ _ _ _ q | .sort _ q=> [q]
 | .pair q r | .join _ _ q r | .both q r=> [q,r]
noncomputable def post:Qn->List Qn
 | .table n=> [.table n]
 | .pick c q=>post q++[.pick c q]
 | .cols ns q=>post q++[.cols ns q]
 | .pair q r=>post q++post r++[.pair q r]
 | .join a b q r=>post q++post r++[.join a b q r]
 | .both q r=>post q++post r++[.both q r]
 | .first n q=>post q++[.first n q]
 | .group a b n s q=>post q++[.group a b n s q]
 | .sort a q=>post q++[.sort a q]
theorem jP(q:Qn):post q=(kids q).flatMap post++[q]:=by cases q<;>simp[post,kids]
theorem za2(q:Qn):q∈post q:=by rw[jP];show wE _ (wm.mpr rfl)
theorem z7r{P:Qn->Prop}(a:∀q,P q->∀k∈kids q,P k)(q:Qn)(h:P q):∀r∈post q,P r:=by
 induction q with
 | table n=>intro r m;rw[wm.mp m];show h
 | pair q s i j|join _ _ q s i j|both q s i j=>
  intro r m;rcases wA.mp m with m|m
  .exact(wA.mp m).elim (i (a _ h _ (.head _)) r) (j (a _ h _ (.tail _ (.head _))) r)
  .rw [wm.mp m];show h
 | pick _ q i|cols _ q i|first _ q i|group _ _ _ _ q i|sort _ q i=>
  intro r m;rcases wA.mp m with m|m
  .exact i (a _ h _ (.head _)) r m
  .rw [wm.mp m];show h
theorem zc0(q:Qn):1<=(post q).length:=by rw[jP,wg];simp
def yu(H:Hp):List Qn->List V->Prop
 | [],vs=>vs= []
 | q::a,vs=>∃v ws,vs=v::ws/\QAt H q v/\yu H a ws
theorem yu.same(e:zw H H'):∀{a:List Qn} {vs:List V},yu H a vs->yu H' a vs
 | [],_,h=>h
 | _::_,_,(v,ws,b,h1,h2)=>(v,ws,b,h1.same e,h2.same e)
def yu.mono(t:∀b xs,H b=AA (.tup xs)->H' b=AA (.tup xs)):∀{a:List Qn} {vs:List V},yu H a vs->yu H' a vs
 | [],_,h=>h
 | _::_,_,(v,ws,c,h1,h2)=>(v,ws,c,h1.mono t,h2.mono t)
theorem yu.len:∀{a:List Qn} {vs:List V},yu H a vs->vs.length=a.length
 | [],_,h=>by rw[show _= []from h];rfl
 | _::a,_,(v,ws,b,h1,h2)=>by rw[b,wP,wP,h2.len]
theorem yu.app:∀{a rs:List Qn} {vs ws:List V},yu H a vs->yu H rs ws->yu H (a++rs) (vs++ws)
 | [],_,_,_,h,g=>by rw[show _= []from h];show g
 | _::_,_,_,_,(v,us,b,h1,h2),g=>(v,us++_,by rw[b];rfl,h1,h2.app g)
theorem yu.rev:∀{a:List Qn} {vs:List V},yu H a vs->yu H a.reverse vs.reverse
 | [],_,h=>by rw[show _= []from h];rfl
 | q::a,_,(v,us,b,h1,h2)=>by
  rw[b,QY,QY];show h2.rev.app (v,[],rfl,h1,rfl)
theorem yu.at:∀{a:List Qn} {vs:List V} {i:Nat} {q:Qn},yu H a vs->a[i]? =AA q->∃v,vs[i]? =AA v/\QAt H q v
 | q::a,_,0,_,(v,us,b,h1,h2),e=>by cases e;show(v,by rw[b];rfl,h1)
 | q::a,_,i+1,_,(v,us,b,h1,h2),e=>by
  obtain⟨u,c,z⟩:=h2.at (i:=i) (by simpa using e);show(u,by rw[b];simpa using c,z)
theorem yu.at':∀{a:List Qn} {vs:List V} {i:Nat} {v:V},yu H a vs->vs[i]? =AA v->∃q,a[i]? =AA q/\QAt H q v
 | [],_,i,v,h,e=>by rw[show _= []from h]at e;cases e
 | q::a,_,0,_,(v,us,b,h1,h2),e=>by rw[b]at e;cases e;show(q,rfl,h1)
 | q::a,_,i+1,_,(v,us,b,h1,h2),e=>by
  rw[b]at e;obtain⟨u,c,z⟩:=h2.at' (i:=i) (by simpa using e);show(u,by simpa using c,z)
inductive spWithin(K:W.Frag)(vs:List V)(H:Hp)(Q:VK)(E:XK):Prop
 | mk:∀v q,vs= [v]->QAt H q v->(∀(l:AD)(kv:List V)(H':Hp),zw H H'->H l=AB->H' l=AA (.lst kv)->yu H' (kids q) kv->Q (.ref l) H')->spWithin K vs H Q E
noncomputable def zfI:List V:= [.str "pair",.str "join",.str "both"]
theorem zcz{v:V}(h:QAt H q v):(∃n p,q= .table n/\v= .ref p/\H p=AA (.tup [.str "table",.str n]))\/
  (∃r p w xs y,kids q= [r]/\v= .ref p/\H p=AA (.tup (.str w::(xs++[y])))/\QAt H r y/\inV (.str w) zfI=false/\w≠"table")\/
  (∃r s p w xs x y,kids q= [r,s]/\v= .ref p/\H p=AA (.tup (.str w::(xs++[x,y])))/\QAt H r x/\QAt H s y/\inV (.str w) zfI=true/\w≠"table"):=by
 cases q with
 | table n=>obtain⟨p,e,h⟩:=(h);show .inl (n,p,rfl,e,h)
 | pick c r=>obtain⟨p,x,y,e,h,_,h2⟩:=(h);show .inr (.inl (r,p,"pick",[x],y,rfl,e,h,h2,(),()))
 | cols ns r=>obtain⟨p,x,y,e,h,_,h2⟩:=(h);show .inr (.inl (r,p,"cols",[.ref x],y,rfl,e,h,h2,(),()))
 | pair r s=>obtain⟨p,x,y,e,h,h1,h2⟩:=(h);show .inr (.inr (r,s,p,"pair",[],x,y,rfl,e,h,h1,h2,(),()))
 | join a b r s=>obtain⟨p,x,y,e,h,h1,h2⟩:=(h);show .inr (.inr (r,s,p,"join",[.str a,.str b],x,y,rfl,e,h,h1,h2,(),()))
 | both r s=>obtain⟨p,x,y,e,h,h1,h2⟩:=(h);show .inr (.inr (r,s,p,"both",[],x,y,rfl,e,h,h1,h2,(),()))
 | first n r=>obtain⟨p,y,e,h,h2⟩:=(h);show .inr (.inl (r,p,"first",[.int n],y,rfl,e,h,h2,(),()))
 | group a b n s r=>obtain⟨p,y,e,h,h2⟩:=(h);show .inr (.inl (r,p,"group",[.str a,.str b,.str n,.str s],y,rfl,e,h,h2,(),()))
 | sort a r=>obtain⟨p,y,e,h,h2⟩:=(h);show .inr (.inl (r,p,"sort",[.str a],y,rfl,e,h,h2,(),()))
def zd2(v:V)(xs:List V)(y:V):atI (v::(xs++[y])) (-1)=AA y:=zd0 (v::xs) y
theorem zeK(v:V)(xs:List V)(x y:V):atI (v::(xs++[x,y])) (-2)=AA x:=by
 have e:v::(xs++[x,y])=(v::xs)++[x,y]:=rfl;rw[e];generalize v::xs=l;unfold atI ixN;rw[wW (),qc (by rw[wg];simp;lia)];have h1:((((l++[x,y]).length:Nat):Int)+(-2)).toNat=l.length:=by rw[wg];simp;lia
 simp only[Option.bind_some]
 first|rw[h1]|(rw[show((-2:Int)+(((l++[x,y]).length:Nat):Int)).toNat=l.length by rw[wg];simp;lia])
 simp
theorem z2P:FnScope ["question"] ["question"] (zj kF):=by done
theorem z2I(F:Fun K "straight_within" "straight_within" kF f fd)(T:Txt K mg)(R:TxtP K mg):-FnOk CX0 1 f fd ["question"] (spWithin K):=by
 clear z2P F;obtain⟨v,q,rfl,d,fin⟩:=h;obtain⟨a,c,b⟩:=R.two;intro ag A A3 e i;show(_,(zc (zG (cmT zO (ixT v0 zd) zg)
   (zf (zt (zD zb)))
   zv)
  (zc (zG (z0b kU (ixT v0 zd) (kD (v:= .ref a) rfl c rfl) (by with_unfolding_all rfl))
   (zf (zt (zD (zp (ixT v0 (z5M z3C zd)) (zp (ixT v0 (z5M z3C zd)) zb)))))
   zv)
  (zf (zt (zD (zp (ixT v0 (z5M z3C zd)) zb)))))),?_)
 ac_rfl;have l0:∀n:Nat,n<=10->n<=sizeLine:=λn h=>zR ∅
 rcases zcz d with⟨n,p,rfl,rfl,hp⟩|⟨r,p,w,xs,y,hk,rfl,hp,hy,bj,hw⟩|⟨r,s,p,w,xs,x,y,hk,rfl,hp,hx,hy,bj,hw⟩
 .refine !(zi hp zL (rfl,!?_));show ifT (by rw[j7];decide) ?_;show(l0 0 (),λl hl=>?_);clear l hl H1 n1 x1 l;show fin l _ H1 n1 hl x1 rfl
 .refine !(zi hp zL (rfl,!?_));show ifF (by rw[j7];show wL hw) ?_;show !(zi hp zL (a,!(.inr (b H),rfl,rfl,!?_)));show ifF bj ?_;show !(!(zi hp (zd2 _ _ _) (l0 1 (),λl hl=>?_)));clear l hl H1 n1 x1 l;show fin l _ H1 n1 hl x1 (by rw[hk];show(y,[],rfl,hy.same n1,rfl))
 .refine !(zi hp zL (rfl,!?_));show ifF (by rw[j7];show wL hw) ?_;show !(zi hp zL (a,!(.inr (b H),rfl,rfl,!?_)));show ifT bj ?_;show !(!(zi hp (zeK _ _ _ _) (!(!(zi hp (by have:=zd2 (.str w) (xs++[x]) y;rwa [w0p]at this) (l0 2 (),λl hl=>?_))))));clear l hl H1 n1 x1 l;show fin l _ H1 n1 hl x1 (by rw[hk];show(x,[y],rfl,hx.same n1,y,[],rfl,hy.same n1,rfl))
theorem z6V{l:AD}{o:HO}(h:H l=AA (.lst xs)):∀b ys,H b=AA (.tup ys)->upd H l o b=AA (.tup ys):=λb ys e=>by
 rw[zn (z3K e h (by intro z;cases z))];show e
noncomputable abbrev pre(r:Qn):List Qn:=(post r).reverse
theorem zc5(r:Qn):pre r=r::(kids r).reverse.flatMap pre:=by
 unfold pre;rw[jP,List.reverse_append,List.reverse_flatMap]
 rfl
noncomputable def wtL(ws:List Qn):Nat:=(ws.map λr=>(post r).length).sum
theorem z9g(a b:List Qn):wtL (a++b)=wtL a+wtL b:=by unfold wtL;rw[wT,List.sum_append]
theorem z6K:∀ws:List Qn,ws.length<=wtL ws
 | []=>wy _
 | q::ws=>by
  have:=z6K ws;have:=zc0 q
  change ws.length+1<=(post q).length+wtL ws
  lia
theorem z9G:∀ws:List Qn,(ws.reverse.flatMap pre).length=wtL ws
 | []=>rfl
 | q::ws=>by
  rw[QY,List.flatMap_append,wg,z9G ws]
  change wtL ws+(pre q++[]).length=(post q).length+wtL ws
  rw[w03,w0x,Nat.add_comm]
theorem zcq(r:Qn):(post r).length=wtL (kids r)+1:=by
 rw[jP,wg,List.length_flatMap]
 rfl
theorem yu.snoc:∀{a:List Qn} {vs:List V},yu H a vs->vs≠ []->∃gs g ws v,a=gs++[g]/\vs=ws++[v]/\yu H gs ws/\QAt H g v
 | [],_,h,n=>absurd h n
 | [q],_,(v,us,b,h1,h2),_=>([],q,[],v,rfl,by rw[b,show us= []from h2];rfl,rfl,h1)
 | q::r::a,_,(v,us,b,h1,h2),_=>by
  obtain⟨gs,g,ws,f,e,c,i,d⟩:=h2.snoc (by intro z;have:=h2.len;rw[z]at this;cases this);show(q::gs,g,v::ws,f,by rw[e];rfl,by rw[b,c];rfl,(v,ws,rfl,h1,i),d)
inductive spInner(K:W.Frag)(vs:List V)(H:Hp)(Q:VK)(E:XK):Prop
 | mk:∀v q,vs= [v]->QAt H q v->(post q).length<=8000000->(∀(l:AD)(kv:List V)(H':Hp),zw H H'->H l=AB->H' l=AA (.lst kv)->yu H' (post q) kv->Q (.ref l) H')->spInner K vs H Q E
theorem kK:FnScope ["question","places","waiting","place"] ["question"] (zj z1d):=by done
theorem z5b(F:Fun K "inner_first" "inner_first" z1d f fd)(T:Txt K mg)(a:-Kn 1 "straight_within" ["question"] (spWithin K)):-FnOk CX0 2 f fd ["question"] (spInner K):=by
 clear kK F;obtain⟨v,q,rfl,hq,hsz,fin⟩:=(h);intro ag A A3 sh hr;show(_,(zc (seT 1 kK (zD zb))
  (zc (seT 2 kK (zD (za v0 zb)))
  (zc (z8Q (z1U v2 (λk=>rfl))
   (zc (seT 3 kK (z4T wR w0I w0J z4D v2))
   (zc (jb (apP v1 (za v3 zb)))
   (zf (jb (kH wR PySem.F.slot_list_extend PySem.F.type_list_extend z5H v2 (zK (jd a hr.m (za v3 zb)) zb)))))))
  (zf (zt (z8r rfl rfl T.list rfl T.reversed v1)))))),?_)
 ac_rfl;clear pp re H1 n1 x1;show !((yx rfl),λb x=>?_);have B:pp≠b:=zr x1 x;have Y:H b=none:=n1.free x;clear b x H2 n2 x2 b;have s2:=n1.trans n2;show z1S ?_;dsimp only;show z3j ?_;show z0D (λm σ H'=>∃(ps ws:List Qn)(pv s:List V)(N:Option V),m=wtL ws/\σ= [AA v,AA (.ref pp),AA (.ref b),N]/\zw H H'/\H' pp=AA (.lst pv)/\H' b=AA (.lst s)/\yu H' ps pv/\yu H' ws s/\ps++ws.reverse.flatMap pre=pre q) (wtL [q])
  ([],[q],[],[v],AB,rfl,rfl,s2,n2 _ _ x1,x2,rfl,(v,[],rfl,hq.same s2,rfl),by simp) ?_
 intro m σ i zz;obtain⟨ps,ws,pv,s,N,rfl,rfl,y,R,j,qp,L,n⟩:=(zz);have hlen:ps.length+wtL ws=(post q).length:=by
  have:=QG List.length n;rw[wg,z9G,w0x]at this;show this
 show !(_,.inl (_,SqL.of j,rfl),?_);by_cases aF:s= []
 .subst aF;show ifF (by rfl) ?_;have p:ws= []:=QV.mp L.len.symm;subst p;have ep:ps=pre q:=by simpa using n
  show !(pp,!(SqL.of R,λl hl=>?_));clear l hl H4 n4 x4 l;show fin l _ H4 (y.trans n4) (y.free hl) x4 ?_;have:=(qp.same n4).rev;rw[ep,List.reverse_reverse]at this;show this
 .obtain⟨gs,g,us,c,rfl,rfl,qg,hg⟩:=L.snoc aF;show ifT (by simp) ?_;show(_,λσ' H' z=>z,?_);show !(.inl (rfl,_,SqL.of j),b,_,c,rfl,rfl,j,z37 _ _,?_);rw[w0P];have e:=z6V (o:= .lst us) j;have I:zw H (upd i b (.lst us)):=y.put Y;have r:upd i b (.lst us) pp=AA (.lst pv):=(zn B).trans R;have U:upd i b (.lst us) b=AA (.lst us):=zm;have u:=qp.mono e;have G:=qg.mono e;have D:=hg.mono e;generalize upd i b (.lst us)=H4 at e I r U u G D ⊢;have p:wtL (gs++[g])=wtL gs+(post g).length:=by rw[z9g];rfl
  rw[p]at hlen;have lp:=u.len;have lg:=G.len;have lw:=z6K gs;have lk:=z6K (kids g);have Aw:=zcq g;show !(.inl (rfl,_,SqL.of r),!(pp,~~~(r,z3e ∅,?_)));have t:=z6V (o:= .lst (pv++[c])) r;have Z:zw H (upd H4 pp (.lst (pv++[c]))):=I.put re;have O:upd H4 pp (.lst (pv++[c])) pp=AA (.lst (pv++[c])):=zm;have C:upd H4 pp (.lst (pv++[c])) b=AA (.lst us):=(zn B.symm).trans U;have uE:yu (upd H4 pp (.lst (pv++[c]))) (ps++[g]) (pv++[c]):=(u.mono t).app (c,[],rfl,D.mono t,rfl);have M:=G.mono t;have uG:=D.mono t;generalize upd H4 pp (.lst (pv++[c]))=H5 at Z O C uE M uG ⊢;show !(.inl (rfl,_,SqL.of C),!(_,g,rfl,uG,λl kv H6 d fl x6 X=>?_));have J:=d _ _ C;have uI:=X.len;show(b,l,~~~(J,x6,zcV ∅,?_));have S:=z6V (o:= .lst (us++kv)) J;show(wtL (gs++kids g),by rw[p,z9g];lia,ps++[g],gs++kids g,pv++[c],us++kv,!(rfl,(Z.trans d).put Y,by rw[zn B];show d _ _ O,zm,(uE.same d).mono S,((M.same d).app X).mono S,?_));rw[List.reverse_append]at n;rw[List.reverse_append,List.flatMap_append,<-n]
  change ps++[g]++_=ps++([g]++gs.reverse).flatMap pre
  rw[List.flatMap_append,List.flatMap_cons,zc5 g];simp
def Nt(H H':Hp):Prop:=∀b o,H b=AA o->(∀ps,o≠ .tbl ps)->H' b=AA o
def Nt.refl(H:Hp):Nt H H:=λv v e v=>e
theorem Nt.trans(a:Nt H H1)(b:Nt H1 H2):Nt H H2:=λx o e n=>b x o (a x o e n) n
def Nt.of(h:zw H H'):Nt H H':=λb o e v=>h b o e
theorem Nt.lst{H H':Hp}{b:AD}{xs:List V}(h:Nt H H')(e:H b=AA (.lst xs)):H' b=AA (.lst xs):=h b _ e λv z=>by cases z
theorem Nt.tup{H H':Hp}{b:AD}{xs:List V}(h:Nt H H')(e:H b=AA (.tup xs)):H' b=AA (.tup xs):=h b _ e λv z=>by cases z
theorem z1A{a b:HO}:upd (upd H d a) d b=upd H d b:=by
 funext x
 by_cases e:x=d
 .subst e;rw[zm,zm]
 .rw [zn e,zn e,zn e]
theorem z7j{c:AD}{a b:HO}(n:c≠d):upd (upd H d a) c b=upd (upd H c b) d a:=by
 funext x
 by_cases e:x=d
 .subst e;rw[zn n.symm,zm,zm]
 .rw [zn (H:=upd H c b) e];by_cases e2:x=c
  .subst e2;rw[zm,zm]
  .rw [zn e2,zn e2,zn e]
theorem zcX{o:HO}(h:H d=AA o):upd H d o=H:=by
 funext x
 by_cases e:x=d
 .subst e;rw[zm,h]
 .rw [zn e]
theorem z78(h:zw H H2)(hd:H d=AB):zw H (hid H2 d):=λb o e=>by
 rw[jA (λz=>by rw[z,hd]at e;cases e)];show h b o e
theorem z90{o:HO}(h:H d=AA o):upd (hid H d) d o=H:=by
 funext x
 by_cases e:x=d
 .subst e;rw[zm,h]
 .rw [zn e,jA e]
def z0i(Res:Qn->V->Hp->Prop)(H:Hp):List Qn->List V->Prop
 | [],vs=>vs= []
 | q::a,vs=>∃v ws,vs=v::ws/\Res q v H/\z0i Res H a ws
section
variable{Res:Qn->V->Hp->Prop}
def z0i.imp(h:∀r u,Res r u H->Res r u H'):∀{a:List Qn} {vs:List V},z0i Res H a vs->z0i Res H' a vs
 | [],_,z=>z
 | _::_,_,(v,ws,b,h1,h2)=>(v,ws,b,h _ _ h1,h2.imp h)
theorem z0i.len:∀{a:List Qn} {vs:List V},z0i Res H a vs->vs.length=a.length
 | [],_,h=>by rw[show _= []from h];rfl
 | _::a,_,(v,ws,b,h1,h2)=>by rw[b,wP,wP,h2.len]
theorem z0i.app:∀{a rs:List Qn} {vs ws:List V},z0i Res H a vs->z0i Res H rs ws->z0i Res H (a++rs) (vs++ws)
 | [],_,_,_,h,g=>by rw[show _= []from h];show g
 | _::_,_,_,_,(v,us,b,h1,h2),g=>(v,us++_,by rw[b];rfl,h1,h2.app g)
theorem z0i.cut:∀{c rs:List Qn} {vs ws:List V},z0i Res H (c++rs) (vs++ws)->vs.length=c.length->z0i Res H c vs/\z0i Res H rs ws
 | [],_,vs,_,h,e=>by
  have:vs= []:=QV.mp e;subst this;show(rfl,h)
 | _::_,_,[],_,_,e=>by cases e
 | q::c,rs,v::vs,ws,(u,us,d,h1,h2),e=>by
  obtain⟨rfl,rfl⟩:=List.cons.inj d;obtain⟨a,b⟩:=h2.cut (by simpa using e);show((v,vs,rfl,h1,a),b)
end
inductive Runs:List Qn->List Qn->List Qn->Prop
 | nil (S:List Qn):Runs S [] S
 | cons {S:List Qn} {r:Qn} {l S':List Qn}:Runs (S++[r]) l S'->Runs (S++kids r) (r::l) S'
variable{l:List Qn}
theorem Runs.app{b d a c:List Qn}(h:Runs b l d)(g:Runs d a c):Runs b (l++a) c:=by
 induction h with
 | nil S=>show g
 | cons h e=>show .cons (e g)
theorem y0:∀(q:Qn)(S:List Qn),Runs S (post q) (S++[q])
 | .table n,S=>by have:=Runs.cons (S:=S) (r:= .table n) (.nil (S++[.table n]));simpa [kids,post]using this
 | .pick c q,S=>(y0 q S).app (.cons (r:= .pick c q) (.nil _))
 | .cols ns q,S=>(y0 q S).app (.cons (r:= .cols ns q) (.nil _))
 | .pair q r,S=>((y0 q S).app (y0 r _)).app (by rw[w0p];show .cons (r:= .pair q r) (.nil _))
 | .join a b q r,S=>((y0 q S).app (y0 r _)).app (by rw[w0p];show .cons (r:= .join a b q r) (.nil _))
 | .both q r,S=>((y0 q S).app (y0 r _)).app (by rw[w0p];show .cons (r:= .both q r) (.nil _))
 | .first n q,S=>(y0 q S).app (.cons (r:= .first n q) (.nil _))
 | .group a b n s q,S=>(y0 q S).app (.cons (r:= .group a b n s q) (.nil _))
 | .sort a q,S=>(y0 q S).app (.cons (r:= .sort a q) (.nil _))
theorem Runs.inv{S a:List Qn}(h:Runs S (r::l) a):∃b,S=b++kids r/\Runs (b++[r]) l a:=by
 cases h with
 | cons h=>show !h
inductive Er where
 | col|tab|two|alike
 deriving DecidableEq
def z3l(P:AM)(w:Av)(K:W.Frag)(mg:Str->Option AC)(base:AN)(Ce:Er->AD)(k:Nat):SpS:=λA3 s vs H Q E=>∃(v:V)(q:Qn)(lf:AD)(c:Sp)(Ok:Hp->Prop)(Res:Qn->V->Hp->Prop)(b:Qn->Option Er),
 vs= [v,.ref lf]/\QAt H q v/\(post q).length<=8000000/\WorkOk P w K mg base (CXR P w) k (frs A3) H s lf c/\Ok H/\(∀H1 H2,zw H1 H2->Ok H1->Ok H2)/\(∀r u H1 H2,Nt H1 H2->Res r u H1->Res r u H2)/\
 (∀r∈post q,∀(f:V)(wl:AD)(ws:List V)(H1:Hp)(d:VK),Nt H H1->Ok H1->QAt H1 r f->H1 wl=AA (.lst ws)->z0i Res H1 (kids r) ws->(b r=AB->∀a H2,Nt H1 H2->Ok H2->Res r a H2->d a H2)->(∀e,b r=AA e->∀H2,Nt H1 H2->Ok H2->E (.ref (Ce e)) AB H2)->c [f,.ref wl] H1 d E)/\
 ((post q).findSome? b=AB->∀a H',Nt H H'->Ok H'->Res q a H'->Q a H')/\∀e,(post q).findSome? b=AA e->∀H',Nt H H'->Ok H'->E (.ref (Ce e)) AB H'
theorem z0m:FnScope ["question","work","done","place","within","inner"] ["question","work"] (zj z2N):=by done
variable{Ce:Er->AD}
theorem z7H{k:Nat}(eZ:2<=k)(F:Fun K "built_up" "built_up" z2N f fd)(T:Txt K mg)(c:-Kn 2 "inner_first" ["question"] (spInner K))(a:-Kn 1 "straight_within" ["question"] (spWithin K)):-FnOkS (CXR P w) (k+1) f fd ["question","work"] (-z3l Ce k):=by
 show F.okS z0m (λA3 s vs H Q E h=>?_) (λag A A3 s H vs Q E hr h=>?_)
 .obtain⟨v,q,lf,ow,Ok,Res,er,rfl,_⟩:=h
  rfl
 obtain⟨v,q,lf,ow,Ok,Res,er,rfl,hq,hsz,W,mG,okS,resN,work,fin,bad⟩:=(h);show(_,(zc (seT 2 z0m (zD zb))
  (zc (z4v z2b rfl (zW (jd c hr.m (za v0 zb))) (gnM 3 z0m)
   (zc (seT 4 z0m (zD zb))
   (zc (z4v z2b rfl (zW (jd a hr.m (za v3 zb))) (gnM 5 z0m)
    (zf (jb (kH wR PySem.F.slot_list_insert PySem.F.type_list_insert zac v4 (zh zd (zK (z4T wR w0I w0J z4D v2) zb))))))
   (zf (jb (apP v2 (zK (zay (i:=1) W jg.passes rfl hr rfl (w0v rfl) (za (pv 3) (za (pv 4) zb))) zb)))))))
  (zf (zt (ixL v2 zd))))),?_)
 show((yx rfl),λdn cK=>?_);show !(v,q,rfl,hq.mono λb xs e=>by rw[zn (zr e cK)];show e,hsz,λl kv H2 n2 fl x2 L=>?_);have s1:zw H (upd H dn (.lst [])):=zE cK _;have d2:H2 dn=AA (.lst []):=n2 _ _ zm;have uK:l≠dn:=λz=>by rw[z,zm]at fl;cases fl
 have g2:zw H (hid H2 dn):=z78 (s1.trans n2) cK;have bF:hid H2 dn l=AA (.lst kv):=(jA uK).trans x2;have Ax:∀b xs,H2 b=AA (.tup xs)->hid H2 dn b=AA (.tup xs):=λb xs e=>by rw[jA (z3K e d2 (by intro z;cases z))];show e
 have uI:=L.len;show(l,rfl,(_,SqL.of x2),z1s (xs:=kv) (λi σ H'=>∃(G:Hp)(S:List Qn)(ds:List V)(N Y n:Option V),σ= [AA v,AA (.ref lf),AA (.ref dn),N,Y,n]/\H'=upd G dn (.lst ds)/\G dn=AB/\Nt H G/\Ok G/\G l=AA (.lst kv)/\yu G (post q) kv/\z0i Res G S ds/\Runs S ((post q).drop i) [q]/\S.length<=i/\(post q).findSome? er=((post q).drop i).findSome? er)
  (hid H2 dn,[],[],AB,AB,AB,rfl,(z90 d2).symm,yI,Nt.of g2,okS _ _ g2 mG,bF,L.mono Ax,rfl,by have:=y0 q [];simpa using this,wy _,rfl) ?_ ?_ ?_)
 .rintro i σ H' _ ⟨G,S,ds,N,Y,n,rfl,rfl,O,nt,U,gl,_⟩;show SqL.of (by rw[zn uK];show gl)
 .rintro i rv σ H' D hN _ hi ⟨G,S,ds,N,Y,n,rfl,rfl,O,nt,U,gl,rX,rs,run,hS,fs⟩;obtain⟨r,cs,ge⟩:=(rX.at' hi);have mF:i<(post q).length:=(we.mp cs).1;have ao:(post q)[i]=r:=(we.mp cs).2;rw[w01 mF,ao]at run fs;obtain⟨S0,rfl,run'⟩:=(run.inv);have c8:r∈post q:=qB cs;show((yx rfl),λwl X=>?_);have t:wl≠dn:=λz=>by rw[z,zm]at X;cases X
  have gw:G wl=none:=by rw[zn t]at X;show X
  rw[z7j t];have n1:zw G (upd G wl (.lst [])):=zE gw _;have w1:upd G wl (.lst []) wl=AA (.lst []):=zm;have d1:upd G wl (.lst []) dn=none:=by rw[zn t.symm];show O
  generalize upd G wl (.lst [])=G1 at n1 w1 d1 ⊢;have rY:QAt (upd G1 dn (.lst ds)) r rv:=(ge.same n1).mono λb xs e=>by rw[zn (zr e d1)];show e
  show !(rv,r,rfl,rY,λZ kk x n4 p x4 qk=>?_);have d4:x dn=AA (.lst ds):=n4 _ _ zm;have rZ:Z≠dn:=λz=>by rw[z,zm]at p;cases p
  have e4:upd (hid x dn) dn (.lst ds)=x:=z90 d4;have R:zw G1 (hid x dn):=z78 ((zE d1 _).trans n4) d1;have sg:hid x dn Z=AA (.lst kk):=(jA rZ).trans x4;have uL:hid x dn dn=none:=yI;rw[<-e4];generalize hid x dn=G4 at R sg uL ⊢;have w4:=R _ _ w1;have Ay:Z≠wl:=λz=>by
   have:=R _ _ w1;rw[z,zn t,w1]at p;cases p
  have Aw:=qk.len;have mf:=rs.len;rw[wg]at mf hS;have hlen:ds.length=S0.length+(kids r).length:=mf;show(Z,rfl,(_,SqL.of (by rw[zn rZ];show sg)),z1s (xs:=kk) (λj σ H'=>∃(d ws:List V)(n:Option V),σ= [AA v,AA (.ref lf),AA (.ref dn),AA rv,AA (.ref wl),n]/\H'=upd (upd G4 wl (.lst ws)) dn (.lst d)/\ds=d++ws/\ws.length=j)
   (ds,[],n,rfl,by rw[zcX w4],by simp,rfl) ?_ ?_ ?_)
  .rintro j σ H' _ ⟨d,ws,n,rfl,rfl,_⟩;show SqL.of (by rw[zn rZ,zn Ay];show sg)
  .rintro j kx σ H' D2 hM _ hj ⟨d,ws,n,rfl,rfl,J,si⟩;have Fv:j<kk.length:=(we.mp hj).1;have aF:d≠ []:=λz=>by
    have:=QG List.length J;rw[z,List.nil_append,hlen,si]at this
    lia
   obtain⟨gs,g,rfl⟩:=(z6P aF);have M:upd (upd G4 wl (.lst ws)) dn (.lst (gs++[g])) dn=AA (.lst (gs++[g])):=zm;have Az:upd (upd G4 wl (.lst ws)) dn (.lst (gs++[g])) wl=AA (.lst ws):=by rw[zn t,zm]
   show !(.inl (rfl,_,SqL.of Az),!(.inl (rfl,_,SqL.of M),dn,_,g,rfl,rfl,M,z37 _ _,?_));rw[w0P,z1A];have sj:upd (upd G4 wl (.lst ws)) dn (.lst gs) wl=AA (.lst ws):=by rw[zn t,zm]
   show(wl,ws,g,rfl,rfl,sj,z3e ∅,?_);show hM _ _ (gs,g::ws,!(?_,by rw[J,w0p];rfl,by rw[wP,si]));rw[z7j t,z1A]
  .rintro σ H' ⟨d,ws,n,rfl,rfl,J,si⟩;rw[J]at rs;have iL:d.length=S0.length:=by
    have:=QG List.length J;rw[wg]at this
    lia
   obtain⟨bD,bP⟩:=rs.cut iL;have su:zw G (upd G4 wl (.lst ws)):=λb o e=>by
    rw[zn (zr e gw)];show R _ _ (n1 _ _ e)
   have C:=Nt.of su;have d5:upd G4 wl (.lst ws) dn=none:=by rw[zn t.symm];show uL
   have w5:upd G4 wl (.lst ws) wl=AA (.lst ws):=zm;have uM:=okS _ _ su U;generalize upd G4 wl (.lst ws)=G5 at su C d5 w5 uM ⊢;have M:upd G5 dn (.lst d) dn=AA (.lst d):=zm;show !(.inl (rfl,_,SqL.of M),rfl,!(!(dn,d,M,?_)));rw[kQ d5];show work r c8 rv wl ws G5 _ (nt.trans C) uM (ge.mono λb xs e=>C.tup e) w5 (bP.imp λr u z=>resN r u _ _ C z) (λe0 B H6 n6 y I d6=>?_) λe e1 H6 n6 y=>bad e (fs.trans (by rw[List.findSome?_cons,e1])) H6 ((nt.trans C).trans n6) y
   show(dn,d,B,rfl,rfl,zm,z3e ∅,?_);rw[z1A];have fL:=C.trans n6;show hN _ _ (H6,S0++[r],d++[B],_,_,!(rfl,d6,nt.trans fL,y,fL.lst gl,rX.mono λb xs e=>fL.tup e,(bD.imp λr u z=>resN r u _ _ fL z).app (B,[],rfl,I,rfl),run',by rw[wg,wZ];lia,fs.trans (by rw[List.findSome?_cons,e0])))
 .rintro σ H' ⟨G,S,ds,N,Y,n,rfl,rfl,O,nt,U,gl,rX,rs,run,hS,fs⟩;rw[uI,List.drop_length]at run fs;cases run;obtain⟨B,ws,rfl,res,e⟩:=(rs);have e':ws= []:=e;subst e';have sd:zw G (upd G dn (.lst [B])):=zE O _;show !(zy zm zL (fin fs B _ (nt.trans (Nt.of sd)) (okS _ _ sd U) (resN _ _ _ _ (Nt.of sd) res)))
def wfQ(th:Str->List Str):Qn->Prop
 | .table n=>n∈tabs
 | .pick c q=>c.ok (ze th q)/\c.size<=20/\wfQ th q
 | .cols ns q=>ns.Nodup/\(∀n∈ns,n∈ze th q)/\wfQ th q
 | .pair q r=>(∀n∈ze th q,n∉ze th r)/\(ze th q++ze th r).length<=100/\wfQ th q/\wfQ th r
 | .join a b q r=>a∈ze th q/\b∈ze th r/\(∀n∈ze th q,n∉ze th r)/\(ze th q++ze th r).length<=100/\wfQ th q/\wfQ th r
 | .both q r=>ze th q=ze th r/\wfQ th q/\wfQ th r
 | .first n q=>0<=n/\wfQ th q
 | .group a b n s q=>a∈ze th q/\b∈ze th q/\ [a,n,s].Nodup/\wfQ th q
 | .sort a q=>a∈ze th q/\wfQ th q
def zcp(nd:ns.Nodup)(h:∀n∈ns,n∈hs):ns.length<=hs.length:=kA nd h
theorem jM{th:Str->List Str}{tr:Str->List (List Int)}(T:TabOk th tr):∀{q:Qn},wfQ th q->(ze th q).Nodup/\(ze th q).length<=100
 | .table n,h=>((T.hd n h).2,by
  obtain⟨m,d,f,e⟩:=T.t;have ht:(th "t").length<=100:=by rw[e,qi];lia
  have hn:n∈tabs:=h;simp only[tabs,wF,qh,QE]at hn
  change(th n).length<=100
  rcases hn with rfl|rfl|rfl|rfl
  .exact ht
  .rw [T.w];decide
  .rw [T.x];decide
  .rw [T.z];show ht)
 | .pick _ q,h=>jM T (q:=q) h.2.2
 | .cols ns q,h=>(h.1,wG (zcp h.1 h.2.1) (jM T (q:=q) h.2.2).2)
 | .pair q r,h=>(QN.mpr ((jM T (q:=q) h.2.2.1).1,(jM T (q:=r) h.2.2.2).1,λa ha b c e=>h.1 a ha (e ▸ c)),h.2.1)
 | .join a b q r,h=>(QN.mpr ((jM T (q:=q) h.2.2.2.2.1).1,(jM T (q:=r) h.2.2.2.2.2).1,λa ha b c e=>h.2.2.1 a ha (e ▸ c)),h.2.2.2.1)
 | .both q r,h=>jM T (q:=q) h.2.1
 | .first _ q,h=>jM T (q:=q) h.2
 | .group a b n s q,h=>(h.2.2.1,by change 3<=100;decide)
 | .sort _ q,h=>jM T (q:=q) h.2
def zdY(th:Str->List Str)(r:Qn)(v:V)(H:Hp):Prop:=∃a,v= .ref a/\H a=AA (.lst ((ze th r).map V.str))
noncomputable def chk(ns hs:List Str)(k:Option Er):Option Er:=if∀n∈ns,n∈hs then k else AA .col
noncomputable def onc(hs:List Str):Option Er:=if hs.Nodup then AB else AA .two
def jQ{k:Option Er}(h:∀n∈ns,n∈hs):chk ns hs k=k:=qc h
def z01{k:Option Er}(h:¬∀n∈ns,n∈hs):chk ns hs k=AA .col:=wW h
def z1h(h:hs.Nodup):onc hs=none:=qc h
def z1Z(h:¬hs.Nodup):onc hs=AA .two:=wW h
noncomputable def jK(th:Str->List Str):Qn->Option Er
 | .table n=>if n∈tabs then AB else AA .tab
 | .pick c q=>chk c.cols (ze th q) AB
 | .cols ns q=>chk ns (ze th q) (onc ns)
 | .pair q r=>onc (ze th q++ze th r)
 | .join a b q r=>chk [a] (ze th q) (chk [b] (ze th r) (onc (ze th q++ze th r)))
 | .both q r=>if ze th q=ze th r then AB else AA .alike
 | .first _ _=>AB
 | .group a b n s q=>chk [a,b] (ze th q) (onc [a,n,s])
 | .sort a q=>chk [a] (ze th q) AB
def Nm(ns hs:List Str):Prop:=∀n∈ns,n∈hs\/n.length<=1000
def kj(th:Str->List Str):Qn->Prop
 | .table n=>n∈tabs\/n.length<=1000
 | .pick c q=>c.size<=20/\Nm c.cols (ze th q)
 | .cols ns q=>ns.length<=1000/\Nm ns (ze th q)
 | .pair q r=>(ze th q++ze th r).length<=1000
 | .join a b q r=>(ze th q++ze th r).length<=1000/\Nm [a] (ze th q)/\Nm [b] (ze th r)
 | .both _ _=>True
 | .first _ _=>True
 | .group a b _ _ q=>Nm [a,b] (ze th q)
 | .sort a q=>Nm [a] (ze th q)
theorem z1x{a:Str}(h:a∈hs):∀n∈ [a],n∈hs:=λn m=>by rw[wm.mp m];show h
theorem zb8{a b:Str}(h:a∈hs)(g:b∈hs):∀n∈ [a,b],n∈hs:=λn m=>(wF.mp m).elim (λe=>by rw[e];show h) (z1x g n)
def Nm.of(h:∀n∈ns,n∈hs):Nm ns hs:=λn m=> .inl (h n m)
theorem z4H(h:c.ok hs):∀s∈c.cols,s∈hs:=by
 have side:∀{a:Side},a.ok hs->∀s∈a.cols,s∈hs:=λ{a} h s m=>by
  cases a with
  | nm x=>rw[show s=x from wm.mp m];show h
  | nu i=>cases m
 induction c with
 | less a b=>show λs m=>(wA.mp m).elim (side h.1 s) (side h.2 s)
 | same a b=>show λs m=>(wA.mp m).elim (side h.1 s) (side h.2 s)
 | no c j=>show j h
 | an c d f e=>show λs m=>(wA.mp m).elim (f h.1 s) (e h.2 s)
 | or c d f e=>show λs m=>(wA.mp m).elim (f h.1 s) (e h.2 s)
theorem z4x(T:TabOk th tr)(w:wfQ th q):jK th q=AB/\kj th q:=by
 have hd:=jM T w;cases q with
 | table n=>show(qc w,.inl w)
 | pick c q=>show(jQ (z4H w.1),w.2.1,Nm.of (z4H w.1))
 | cols ns q=>show((jQ w.2.1).trans (z1h w.1),wG hd.2 (),Nm.of w.2.1)
 | pair q r=>show(z1h hd.1,wG hd.2 ())
 | join a b q r=>show((jQ (z1x w.1)).trans ((jQ (z1x w.2.1)).trans (z1h hd.1)),wG hd.2 (),Nm.of (z1x w.1),Nm.of (z1x w.2.1))
 | both q r=>show(qc w.1,trivial)
 | first n q=>show(rfl,trivial)
 | group a b n s q=>show((jQ (zb8 w.1 w.2.1)).trans (z1h hd.1),Nm.of (zb8 w.1 w.2.1))
 | sort a q=>show(jQ (z1x w.1),Nm.of (z1x w.1))
noncomputable def noD:Ends:=(λv v=>False,λv v=>False,λv v=>False,λv v=>False)
theorem z4B{a y:Str}{D:Ends}(b:σ[i]? =AA (AA (.str y)))(hl:y.length<=1000)(ha:a.length<=1000)(q:E (.ref C) AB H):
  zbl E C (z1I (zem (zfO a (zfR (z6f i) zga))) zdB) D σ H:=by
 have c:(Str.empty++a).length<=1000:=by rw[w0q,show Str.empty.length=0 from rfl];lia
 have d:(Str.empty++a++y).length<=2000:=by rw[w0q];lia
 show(zR ∅,_,b,y,rfl,zR ∅,zR ∅,zR ∅,zR (by change 1<=_;decide),q)
inductive spHOT(K:W.Frag)(Ce:Er->AD)(vs:List V)(H:Hp)(Q:VK)(E:XK):Prop
 | mk:∀th tr tp n,vs= [.ref tp,.str n]->FourAt th tr H tp->(n∈tabs\/n.length<=1000)->(n∈tabs->∀(hp:AD)(H':Hp),zw H H'->H' hp=AA (.lst ((th n).map V.str))->Q (.ref hp) H')->(n∉tabs->E (.ref (Ce .tab)) AB H)->spHOT K Ce vs H Q E
theorem z2T(h:FourAt th tr H p):∃vs:List V,H p=AA (.lst vs)/\vs.length=4/\∀i,i<4->∃v,vs[i]? =AA v/\TabAt th tr H v (tabs.getD i ""):=by
 obtain⟨v0,v1,v2,v3,h0,a,b,c,d⟩:=h;show(_,h0,rfl,λi hi=>?_)
 match i,hi with
 | 0,_=>show(v0,rfl,a)
 | 1,_=>show(v1,rfl,b)
 | 2,_=>show(v2,rfl,c)
 | 3,_=>show(v3,rfl,d)
theorem z9P(h:n∈tabs):∃j,j<4/\tabs.getD j ""=n:=by
 have hn:=h;simp only[tabs,wF,qh,QE]at hn;rcases hn with rfl|rfl|rfl|rfl
 .exact(0,(),rfl)
 .exact(1,(),rfl)
 .exact(2,(),rfl)
 .exact(3,(),rfl)
theorem z4Z(h:i<4):tabs.getD i ""∈tabs:=by
 match i,h with
 | 0,_=>decide
 | 1,_=>decide
 | 2,_=>decide
 | 3,_=>decide
theorem z17:FnScope ["tables","name","table"] ["tables","name"] (zj kZ):=by done
theorem z3i(F:Fun K "heads_of_table" "heads_of_table" kZ f fd)(T:Txt K mg)(B:mg "NoTable"=AA (.ref (Ce .tab)))(C:PySem.W.excIn K (Ce .tab) z2Q "ValueError.__new__"=true):-FnOk (CXR P w) 1 f fd ["tables","name"] (spHOT K Ce):=by
 show F.okX z17 (λvs H Q E h=>?_) (λag A A3 s H vs Q E N h=>?_)
 .obtain⟨th,tr,tp,n,rfl,_⟩:=h
  rfl
 obtain⟨th,tr,tp,n,rfl,G,hn,fin,bad⟩:=(h);obtain⟨vs,y,o,I⟩:=(z2T G);show(_,(zc (z4v z2b rfl (zW v0) (gnM 2 z17)
   (zf (zG (cmT zO (ixT v2 zd) v1)
    (zf (zt (jq yL rfl T.list qY (zp (ixT v2 zd) zb))))
    zv)))
  (zf (z2X z2n rfl rfl B C (zP (z9C (zbK (zcs v1 zcQ))) zb)))),?_)
 show !(tp,rfl,(_,SqL.of y),z25 (xs:=vs) (λi σ H'=>∃a,σ= [AA (.ref tp),AA (.str n),a]/\H'=H/\∀m,m<i->tabs.getD m ""≠n) (AB,rfl,rfl,λk z=>absurd z (w1v _)) ?_ ?_ ?_)
 .rintro i σ H' _ ⟨a,rfl,rfl,_⟩;show SqL.of y
 .rintro i x σ H' hi ⟨a,rfl,rfl,b⟩;have r:i<4:=by rw[<-o];show(we.mp hi).1
  obtain⟨v,q,p,J,rp,rs,rfl,c,u,O,R⟩:=(I i r);rw[hi]at q;cases q;show !(zi c zL (!(rfl,!?_)));by_cases e:tabs.getD i ""=n
  .refine ifT (by rw[j7];show qd e) ?_;have d:=z4Z r;rw[e]at u d;show !(zi c jc (J,!(.inl (SqL.of u),λl hl=>?_)));clear l hl H1 n1 x1 l;show fin d l H1 n1 x1
  .refine ifF (by rw[j7];show wL e) ?_;show !(rfl,λm hm=>(Nat.lt_succ_iff_lt_or_eq.mp hm).elim (b m) λz=>z ▸ e)
 .rintro σ H' ⟨a,rfl,rfl,b⟩;have t:n∉tabs:=λz=>by
   obtain⟨j,L,M⟩:=(z9P z);show b j (by rw[o];show L) M
  show z4B (D:=noD) (i:=1) rfl (hn.resolve_left t) () (bad t)
inductive spCheck(K:W.Frag)(Ce:Er->AD)(vs:List V)(H:Hp)(Q:VK)(E:XK):Prop
 | mk:∀np hp (ns:List Str) (hs:List Str),vs= [.ref np,.ref hp]->(SqL K H np (ns.map V.str)\/SqT K H np (ns.map V.str))->SqL K H hp (hs.map V.str)->Nm ns hs->((∀n∈ns,n∈hs)->Q .non H)->((¬∀n∈ns,n∈hs)->E (.ref (Ce .col)) AB H)->spCheck K Ce vs H Q E
theorem z6u(h:n∈hs):inV (.str n) (hs.map V.str)=true:=by
 unfold inV;show w1e.mpr (.str n,Q0.mpr (n,h,rfl),by simp[eqV])
theorem zY(hs:List Str):(hs.map V.str).all yD=true:=qU.mpr λx a=>by
 obtain⟨s,_,rfl⟩:=Q0.mp a
 rfl
theorem z7D(h:n∉hs):inV (.str n) (hs.map V.str)=false:=by
 unfold inV;show Qg.mpr λz=>?_
 obtain⟨x,b,e⟩:=w1e.mp z;obtain⟨m,hm,rfl⟩:=Q0.mp b;have c:n=m:=by simpa [eqV,eq_comm (a:=m)]using e
 show h (c ▸ hm)
theorem zcH{x:V}(h:(ns.map V.str)[i]? =AA x):∃n,ns[i]? =AA n/\x= .str n:=by
 rw[wK]at h;obtain⟨n,hn,e⟩:=Option.map_eq_some_iff.mp h;show(n,hn,e.symm)
theorem z1m:FnScope ["names","heads","name"] ["names","heads"] (zj z0o):=by done
theorem z3z(F:Fun K "check_columns" "check_columns" z0o f fd)(T:Txt K mg)(o:mg "NoColumn"=AA (.ref (Ce .col)))(p:PySem.W.excIn K (Ce .col) z2Q "ValueError.__new__"=true):-FnOk (CXR P w) 1 f fd ["names","heads"] (spCheck K Ce):=by
 show F.okX z1m (λvs H Q E h=>?_) (λag A A3 s H vs Q E r h=>?_)
 .obtain⟨np,d,ns,hs,rfl,_⟩:=h
  rfl
 obtain⟨np,d,ns,hs,rfl,ax,l,nm,q,bad⟩:=h;show(_,(zf (z4v z2b rfl (zg8 (zW v0) (z3n v0)) (gnM 2 z1m)
   (zf (zG (z0b kG v2 v1 (by with_unfolding_all rfl))
    (zf (z2X z2n rfl rfl o p (zP (z9C (zbK (zcs v2 zcQ))) zb)))
    zv)))),?_)
 rcases ax with ax|ax
 .refine .inl (!(np,rfl,(_,ax),z25 (xs:=ns.map V.str) (λi σ H'=>∃a,σ= [AA (.ref np),AA (.ref d),a]/\H'=H/\∀m k,m<i->ns[m]? =AA k->k∈hs) (AB,rfl,rfl,λv v z=>absurd z (w1v _)) ?_ ?_ ?_))
  .rintro i σ H' _ ⟨a,rfl,rfl,_⟩;show ax
  .rintro i x σ H' hi ⟨a,rfl,rfl,b⟩;obtain⟨n,hn,rfl⟩:=zcH hi;have j:=qB hn;show !(!(d,!(.inl l,rfl,zY hs,!?_)));by_cases e:n∈hs
   .refine ifF (by change(not (inV _ _))=false;rw[z6u e];rfl) (!(rfl,λm k hm c=>?_));rcases Nat.lt_succ_iff_lt_or_eq.mp hm with hm|rfl
    .exact b m k hm c
    .rw [hn]at c;cases c;show e
   .exact ifT (by change(not (inV _ _))=true;rw[z7D e];rfl) (z4B (D:=noD) (i:=2) rfl ((nm n j).resolve_left e) () (bad λz=>e (z n j)))
  .rintro σ H' ⟨a,rfl,rfl,b⟩;show q λn m=>by
    obtain⟨i,hi⟩:=List.mem_iff_getElem?.mp m;show b i n (by rw[wa];show(we.mp hi).1) hi
 .refine .inr (!(np,rfl,(_,ax),z9I (xs:=ns.map V.str) (λi σ H'=>∃a,σ= [AA (.ref np),AA (.ref d),a]/\H'=H/\∀m k,m<i->ns[m]? =AA k->k∈hs) (AB,rfl,rfl,λv v z=>absurd z (w1v _)) ?_ ?_ ?_))
  .rintro i σ H' _ ⟨a,rfl,rfl,_⟩;show ax
  .rintro i x σ H' hi ⟨a,rfl,rfl,b⟩;obtain⟨n,hn,rfl⟩:=zcH hi;have j:=qB hn;show !(!(d,!(.inl l,rfl,zY hs,!?_)));by_cases e:n∈hs
   .refine ifF (by change(not (inV _ _))=false;rw[z6u e];rfl) (!(rfl,λm k hm c=>?_));rcases Nat.lt_succ_iff_lt_or_eq.mp hm with hm|rfl
    .exact b m k hm c
    .rw [hn]at c;cases c;show e
   .exact ifT (by change(not (inV _ _))=true;rw[z7D e];rfl) (z4B (D:=noD) (i:=2) rfl ((nm n j).resolve_left e) () (bad λz=>e (z n j)))
  .rintro σ H' ⟨a,rfl,rfl,b⟩;show q λn m=>by
    obtain⟨i,hi⟩:=List.mem_iff_getElem?.mp m;show b i n (by rw[wa];show(we.mp hi).1) hi
inductive spOnce(K:W.Frag)(Ce:Er->AD)(vs:List V)(H:Hp)(Q:VK)(E:XK):Prop
 | mk:∀hp (hs:List Str),vs= [.ref hp]->SqL K H hp (hs.map V.str)->hs.length<=1000->(hs.Nodup->∀H',zw H H'->Q (.ref hp) H')->(¬hs.Nodup->∀H',zw H H'->E (.ref (Ce .two)) AB H')->spOnce K Ce vs H Q E
theorem z6A:FnScope ["heads"] ["heads"] (zj z1T):=by done
theorem z71(F:Fun K "each_once" "each_once" z1T f fd)(T:Txt K mg)(R:TxtP K mg)(d:mg "TwoColumns"=AA (.ref (Ce .two)))(i:PySem.W.excIn K (Ce .two) z2Q "ValueError.__new__"=true):-FnOk (CXR P w) 1 f fd ["heads"] (spOnce K Ce):=by
 show F.okX z6A (λvs H Q E h=>?_) (λag A A3 s H vs Q E j h=>?_)
 .obtain⟨b,hs,rfl,_⟩:=h
  rfl
 obtain⟨b,hs,rfl,c,hl,q,bad⟩:=h;show(_,(zc (zG (cmT z1J (zM (z7V (P:=P) (w:=w) rfl rfl) rfl T.len PySem.boot_len (zK (jq (zbt (P:=P) (w:=w) (K:=K) rfl rfl rfl rfl) rfl R.set PyProof.Rows.boot_set (za v0 zb)) zb)) (leN T.len (za v0 zb)))
   (zf (z2X z2n rfl rfl d i (zh zg zb)))
   zv)
  (zf (zt v0))),?_)
 show !(b,hs,rfl,c,hl,λa ha=>?_);clear a ha H1 n1 x1 a;show(a,!(x1,!(b,!(.inl (n1.seq c),rfl,!?_))));by_cases nd:hs.Nodup
 .refine ifF ?_ ?_
  .rw [(z4w hs).mpr nd,wa];simp
  .exact !(q nd _ n1)
 .refine ifT ?_ ?_
  .have e:=mt (z4w hs).mp nd;rw[wa];simp
   lia
  .exact(zR (by change 1<=_;decide),bad nd _ n1)
inductive spOne(K:W.Frag)(Ce:Er->AD)(vs:List V)(H:Hp)(Q:VK)(E:XK):Prop
 | mk:∀th q r v hp,vs= [v,.ref hp]->QAt H q v->kids q= [r]->kj th q->H hp=AA (.lst ((ze th r).map V.str))->(jK th q=AB->∀(af:AD)(H':Hp),zw H H'->H' af=AA (.lst ((ze th q).map V.str))->Q (.ref af) H')->(∀e,jK th q=AA e->∀H',zw H H'->E (.ref (Ce e)) AB H')->spOne K Ce vs H Q E
def zgS{x y z u t:α}{r:List α}:atI (x::y::z::u::t::r) 4=AA t:=zZ (j:=4) rfl
theorem z0Z:FnScope ["question","heads","word"] ["question","heads"] (zj kY):=by done
theorem z3h(F:Fun K "heads_over_one" "heads_over_one" kY f fd)(T:Txt K mg)(d:-KnX 1 "check_columns" ["names","heads"] (spCheck K Ce))(i:-Kn 1 "columns_of" ["condition"] (spCols K))(e:-KnX 1 "each_once" ["heads"] (spOnce K Ce)):-FnOk (CXR P w) 2 f fd ["question","heads"] (spOne K Ce):=by
 show F.okX z0Z (λvs H Q E h=>?_) (λag A A3 s H vs Q E B h=>?_)
 .obtain⟨th,q,r,v,t,rfl,_⟩:=h
  rfl
 obtain⟨th,q,r,v,t,rfl,D,o,lm,C,fin,bad⟩:=h;show(_,(zc (seT 2 z0Z (ixT v0 zd))
  (zc (zG (cmT zO v2 zg)
   (zf (jb (jo d jg B.m rfl (zK (jd i B.m (zp (ixT v0 zd) zb)) (za v1 zb)))))
   (zf (zG (cmT zO v2 zg)
    (zf (jb (jo d jg B.m rfl (jO (zD (zp (ixT v0 zd) zb)) (za v1 zb)))))
    (zf (zG (cmT zO v2 zg)
     (zc (jb (jo d jg B.m rfl (zp (ixT v0 zd) (za v1 zb))))
     (zf (zt (jo e jg B.m rfl (zK (jq yL rfl T.list qY (zp (ixT v0 zd) zb)) zb)))))
     (zf (zG (cmT zO v2 zg)
      (zc (jb (jo d jg B.m rfl (jO (zD (zp (ixT v0 zd) (zp (ixT v0 zd) zb))) (za v1 zb))))
      (zf (zt (jo e jg B.m rfl (jO (zD (zp (ixT v0 zd) (zp (ixT v0 zd) (zp (ixT v0 zd) zb)))) zb)))))
      zv)))))))
  (zf (zt v1)))),?_)
 have l0:∀n:Nat,n<=10->n<=sizeLine:=λn h=>zR ∅
 have no:∀{a b:Str},a≠b->decide (V.str a=V.str b)=false:=λ{a b} h=>by rw[j7];show wL h
 have yes:∀a:Str,decide (V.str a=V.str a)=true:=λa=>qd rfl
 cases q with
 | table n=>cases o
 | pair a b=>cases o
 | join x y a b=>cases o
 | both a b=>cases o
 | pick c q'=>
  cases (show q'=r from(List.cons.inj o).1);obtain⟨p,x,y,rfl,h1,h2,I⟩:=D;show !(zi h1 zL ?_);show !(rfl,!?_);show ifT (yes _) ?_;show !(zi h1 jc (c,x,c.cols,rfl,h2,by have:=lm.1;lia,λs m=>m,by have:=c.cols_le;have:=lm.1;lia,λl ss H1 j x1 nd mem N=>?_));show !(l,t,ss,_,rfl,.inl (SqL.of x1),SqL.of (j _ _ C),λs m=>lm.2 s ((mem s).mp m),λa=>?_,λa=>bad _ (z01 λz=>a λs m=>z s ((mem s).mp m)) H1 j);show !(fin (jQ λs m=>a s ((mem s).mpr m)) t H1 j (j _ _ C))
 | sort a q'=>
  cases (show q'=r from(List.cons.inj o).1);obtain⟨p,y,rfl,h1,I⟩:=D;show !(zi h1 zL ?_);show !(rfl,!?_);show ifF (no ()) ?_;show !(rfl,!?_);show ifT (yes _) ?_;show !(zi h1 jc (l0 1 (),λl hl=>?_));clear l hl H1 j x1 l;show !(l,t,[a],_,rfl,.inl (SqL.of x1),SqL.of (j _ _ C),lm,λa=>?_,λa=>bad _ (z01 a) H1 j);show !(fin (jQ a) t H1 j (j _ _ C))
 | cols ns q'=>
  cases (show q'=r from(List.cons.inj o).1);obtain⟨p,x,y,rfl,h1,h2,I⟩:=D;show !(zi h1 zL ?_);show !(rfl,!?_);show ifF (no ()) ?_;show !(rfl,!?_);show ifF (no ()) ?_;show !(rfl,!?_);show ifT (yes _) ?_;show !(zi h1 jc (!(x,t,ns,_,rfl,.inr (SqT.of h2),SqL.of C,lm.2,λa=>?_,λa=>bad _ (z01 a) H (zw.refl _))));show !(zi h1 jc (x,!(.inr (SqT.of h2),λl hl=>?_)));clear l hl H1 j x1 l;show(l,ns,rfl,SqL.of x1,lm.1,λnd H2 u=>fin ((jQ a).trans (z1h nd)) l H2 (j.trans u) (u _ _ x1),λnd H2 u=>bad _ ((jQ a).trans (z1Z nd)) H2 (j.trans u))
 | group a b n s q'=>
  cases (show q'=r from(List.cons.inj o).1);obtain⟨p,y,rfl,h1,I⟩:=D;show !(zi h1 zL ?_);show !(rfl,!?_);show ifF (no ()) ?_;show !(rfl,!?_);show ifF (no ()) ?_;show !(rfl,!?_);show ifF (no ()) ?_;show !(rfl,!?_);show ifT (yes _) ?_;show !(zi h1 jc (!(zi h1 jD (l0 2 (),λl hl=>?_))));clear l hl H1 j x1 l;show !(l,t,[a,b],_,rfl,.inl (SqL.of x1),SqL.of (j _ _ C),lm,λab=>?_,λab=>bad _ (z01 ab) H1 j)
  .have L:=j _ _ h1;show !(zi L jc (!(zi L z1p (!(zi L zgS (l0 3 (),λl2 M=>?_))))));clear l2 M H2 u x2 l2;show(l2,[a,n,s],rfl,SqL.of x2,by change 3<=1000;decide,λnd J G=>fin ((jQ ab).trans (z1h nd)) l2 J (j.trans (u.trans G)) (G _ _ x2),λnd J G=>bad _ ((jQ ab).trans (z1Z nd)) J (j.trans (u.trans G)))
 | first n q'=>
  cases (show q'=r from(List.cons.inj o).1);obtain⟨p,y,rfl,h1,I⟩:=D;show !(zi h1 zL ?_);show !(rfl,!?_);show ifF (no ()) ?_;show !(rfl,!?_);show ifF (no ()) ?_;show !(rfl,!?_);show ifF (no ()) ?_;show !(rfl,!?_);show ifF (no ()) ?_;show !(fin rfl t H (zw.refl _) C)
inductive spTwo(K:W.Frag)(Ce:Er->AD)(vs:List V)(H:Hp)(Q:VK)(E:XK):Prop
 | mk:∀th q r t v hp op,vs= [v,.ref hp,.ref op]->QAt H q v->kids q= [r,t]->kj th q->H hp=AA (.lst ((ze th r).map V.str))->H op=AA (.lst ((ze th t).map V.str))->(jK th q=AB->∀(af:AD)(H':Hp),zw H H'->H' af=AA (.lst ((ze th q).map V.str))->Q (.ref af) H')->(∀e,jK th q=AA e->∀H',zw H H'->E (.ref (Ce e)) AB H')->spTwo K Ce vs H Q E
theorem z38:FnScope ["question","heads","others"] ["question","heads","others"] (zj z02):=by done
theorem z3g(F:Fun K "heads_over_two" "heads_over_two" z02 f fd)(T:Txt K mg)(X:mg "NotAlike"=AA (.ref (Ce .alike)))(Y:PySem.W.excIn K (Ce .alike) z2Q "ValueError.__new__"=true)(i:-KnX 1 "check_columns" ["names","heads"] (spCheck K Ce))(j:-KnX 1 "each_once" ["heads"] (spOnce K Ce)):-FnOk (CXR P w) 2 f fd ["question","heads","others"] (spTwo K Ce):=by
 show F.okX z38 (λvs H Q E h=>?_) (λag A A3 s H vs Q E G h=>?_)
 .obtain⟨th,q,r,t,v,B,op,rfl,_⟩:=h
  rfl
 obtain⟨th,q,r,t,v,B,op,rfl,N,u,lm,D,I,fin,bad⟩:=h;have U:=z3O G;show(_,(zc (zG (cmT zO (ixT v0 zd) zg)
   (zc (zG (cmT (zaS (K:=K) rfl U) v1 v2)
    (zf (z2X z2n rfl rfl X Y (zh zg zb)))
    zv)
   (zf (zt v1)))
   zv)
  (zc (zG (cmT zO (ixT v0 zd) zg)
   (zc (jb (jo i jg G.m rfl (jO (zD (zp (ixT v0 zd) zb)) (za v1 zb))))
   (zf (jb (jo i jg G.m rfl (jO (zD (zp (ixT v0 zd) zb)) (za v2 zb))))))
   zv)
  (zf (zt (jo j jg G.m rfl (yp (zq ju v1 v2) zb)))))),?_)
 have l0:∀n:Nat,n<=10->n<=sizeLine:=λn h=>zR ∅
 have no:∀{a b:Str},a≠b->decide (V.str a=V.str b)=false:=λ{a b} h=>by rw[j7];show wL h
 have yes:∀a:Str,decide (V.str a=V.str a)=true:=λa=>qd rfl
 cases q with
 | table n=>cases u
 | pick c a=>cases u
 | cols ns a=>cases u
 | first n a=>cases u
 | sort n a=>cases u
 | group a b n s q=>cases u
 | both a b=>
  obtain⟨rfl,o⟩:=List.cons.inj u;obtain⟨rfl,_⟩:=List.cons.inj o;obtain⟨p,x,y,rfl,h1,h2,R⟩:=N;show !(zi h1 zL (rfl,!?_));show ifT (yes _) ?_;show !(!(B,op,~~~(SqL.of D,SqL.of I,zY _,zY _,!?_)));by_cases e:ze th a=ze th b
  .refine ifF (by rw[z50,qd e];rfl) ?_;show !(fin (qc e) B H (zw.refl _) D)
  .refine ifT (by rw[z50,wL e];rfl) ?_;show(zR (by change 1<=_;decide),bad _ (wW e) H (zw.refl _))
 | pair a b=>
  obtain⟨rfl,o⟩:=List.cons.inj u;obtain⟨rfl,_⟩:=List.cons.inj o;obtain⟨p,x,y,rfl,h1,h2,R⟩:=N;show !(zi h1 zL (rfl,!?_));show ifF (no ()) ?_;show !(zi h1 zL (rfl,!?_));show ifF (no ()) ?_;show !(!(B,op,~~~(D,I,zR (by rw[wa,wa];have:(ze th a++ze th b).length<=1000:=lm;rw[wg]at this;lia),λl hl=>?_)));clear l hl H1 n1 x1 l;rw[<-wT]at x1;show(l,_,rfl,SqL.of x1,lm,λnd H2 z=>fin (z1h nd) l H2 (n1.trans z) (z _ _ x1),λnd H2 z=>bad _ (z1Z nd) H2 (n1.trans z))
 | join c d a b=>
  obtain⟨rfl,o⟩:=List.cons.inj u;obtain⟨rfl,_⟩:=List.cons.inj o;obtain⟨p,x,y,rfl,h1,h2,R⟩:=N;show !(zi h1 zL (rfl,!?_));show ifF (no ()) ?_;show !(zi h1 zL (rfl,!?_));show ifT (yes _) ?_;show !(zi h1 jc (l0 1 (),λl hl=>?_));clear l hl H1 n1 x1 l;show !(l,B,[c],_,rfl,.inl (SqL.of x1),SqL.of (n1 _ _ D),lm.2.1,λC=>?_,λC=>bad _ (z01 C) H1 n1);show !(zi (n1 _ _ h1) jD (l0 1 (),λl2 S=>?_));clear l2 S H2 z x2 l2;have n12:=n1.trans z;show !(l2,op,[d],_,rfl,.inl (SqL.of x2),SqL.of (n12 _ _ I),lm.2.2,λo=>?_,λo=>bad _ ((jQ C).trans (z01 o)) H2 n12);show !(!(B,op,~~~(n12 _ _ D,n12 _ _ I,zR (by rw[wa,wa];have:(ze th a++ze th b).length<=1000:=lm.1;rw[wg]at this;lia),λJ O=>?_)));clear J O H3 n3 x3 J;rw[<-wT]at x3;show(J,_,rfl,SqL.of x3,lm.1,λnd M L=>fin ((jQ C).trans ((jQ o).trans (z1h nd))) J M (n12.trans (n3.trans L)) (L _ _ x3),λnd M L=>bad _ ((jQ C).trans ((jQ o).trans (z1Z nd))) M (n12.trans (n3.trans L)))
inductive spHeadsAt(K:W.Frag)(Ce:Er->AD)(vs:List V)(H:Hp)(Q:VK)(E:XK):Prop
 | mk:∀th tr q v tp wl ws,vs= [.ref tp,v,.ref wl]->FourAt th tr H tp->QAt H q v->kj th q->H wl=AA (.lst ws)->z0i (zdY th) H (kids q) ws->(jK th q=AB->∀(af:AD)(H':Hp),zw H H'->H' af=AA (.lst ((ze th q).map V.str))->Q (.ref af) H')->(∀e,jK th q=AA e->∀H',zw H H'->E (.ref (Ce e)) AB H')->spHeadsAt K Ce vs H Q E
theorem z7S:FnScope ["tables","question","within"] ["tables","question","within"] (zj z2F):=by done
theorem z7X(F:Fun K "heads_at" "heads_at" z2F f fd)(T:Txt K mg)(b:-KnX 1 "heads_of_table" ["tables","name"] (spHOT K Ce))(d:-KnX 2 "heads_over_one" ["question","heads"] (spOne K Ce))(c:-KnX 2 "heads_over_two" ["question","heads","others"] (spTwo K Ce)):-FnOk (CXR P w) 3 f fd ["tables","question","within"] (spHeadsAt K Ce):=by
 show F.okX z7S (λvs H Q E h=>?_) (λag A A3 s H vs Q E i h=>?_)
 .obtain⟨th,tr,q,v,tp,wl,ws,rfl,_⟩:=h
  rfl
 obtain⟨th,tr,q,v,tp,wl,ws,rfl,D,B,lm,e,rs,fin,bad⟩:=(h);show(_,(zc (zG (cmT zO (leN T.len (za v2 zb)) zd)
   (zf (zt (jo b jg i.m rfl (za v0 (zp (ixT v1 zd) zb)))))
   zv)
  (zc (zG (cmT zO (leN T.len (za v2 zb)) zd)
   (zf (zt (jo d jg i.m rfl (za v1 (zp (ixL v2 zd) zb)))))
   zv)
  (zf (zt (jo c jg i.m rfl (za v1 (zp (ixL v2 zd) (zp (ixL v2 zd) zb)))))))),?_)
 have o:=rs.len;rcases zcz B with⟨n,p,rfl,rfl,hp⟩|⟨r,p,w,xs,y,hk,rfl,hp,hy,bj,hw⟩|⟨r,t,p,w,xs,x,y,hk,rfl,hp,hx,hy,bj,hw⟩
 .have l0:ws.length=0:=o;show !(wl,!(.inl (SqL.of e),rfl,!?_));show ifT (by rw[l0];simp) ?_;show !(!(zi hp jc (th,tr,tp,n,rfl,D,lm,λa=>fin (qc a),λa=>bad _ (wW a) H (zw.refl _))))
 .rw [hk]at rs o;obtain⟨u,us,rfl,⟨l,rfl,j⟩,z⟩:=(rs);have L:us= []:=z;subst L;show !(wl,!(.inl (SqL.of e),rfl,!?_));show ifF (by simp) ?_;show !(wl,!(.inl (SqL.of e),rfl,!?_));show ifT (by simp) ?_;show !(!(zy e zL (th,q,r,.ref p,l,rfl,B,hk,lm,j,fin,bad)))
 .rw [hk]at rs o;obtain⟨u,us,rfl,⟨l,rfl,j⟩,M,G,rfl,⟨J,rfl,z⟩,C⟩:=(rs);have I:G= []:=C;subst I;show !(wl,!(.inl (SqL.of e),rfl,!?_));show ifF (by simp) ?_;show !(wl,!(.inl (SqL.of e),rfl,!?_));show ifF (by simp) ?_;show !(!(zy e zL (!(zy e jc (th,q,r,t,.ref p,l,J,rfl,B,hk,lm,j,z,fin,bad)))))
noncomputable def zcE:Pos:=match jN z1t with
 | [.Return (AA (.Call _ [_,.Lambda _ _ _ p] _ _)) _]=>p
 | _=>(0,0,0,0)
noncomputable abbrev zcv:Str:=Str.ofString "heads_of" ++ ".<locals>." ++ "<lambda>"
noncomputable def zcb:Pos:=match jN kI with
 | [_,.Return (AA (.Call _ [_,.Lambda _ _ _ p] _ _)) _]=>p
 | _=>(0,0,0,0)
noncomputable abbrev zbX:Str:=Str.ofString "plain_answer" ++ ".<locals>." ++ "<lambda>"
noncomputable def z60(st:Stmt)(j:Nat):Stmt:=match st with
 | .ClassDef _ _ _ body _ _ _ _ _ _ _=>body.getD j (.Pass (0,0,0,0))
 | _=> .Pass (0,0,0,0)
noncomputable abbrev z0A:Stmt:=z60 (top 15) 0
noncomputable abbrev z0c:Stmt:=z60 (top 54) 0
noncomputable abbrev ki:Stmt:=z60 (top 54) 1
noncomputable abbrev kT:Stmt:=z60 (top 54) 2
noncomputable abbrev yW:Stmt:=z60 (top 54) 3
noncomputable abbrev kJ:Stmt:=z60 (top 54) 4
noncomputable def zb2:Pos:=match jN z0c with
 | .Assign _ (.Call _ [_,.Lambda _ _ _ p] _ _) _::_=>p
 | _=>(0,0,0,0)
noncomputable abbrev zb1:Str:=Str.ofString "Turner.__init__" ++ ".<locals>." ++ "<lambda>"
noncomputable def yP(a b c d:AD):Nat->AD
 | 1=>a
 | 2=>b
 | 3=>c
 | _=>d
theorem zeM{a b c:AD}(h:decide [a,b,c,d].Nodup=true):∀i j:Nat,1<=i->i<j->j<=4->yP a b c d i≠yP a b c d j:=by
 have h:=Qq h;simp only[w05,wF,qh,QE,not_or]at h;intro i j l f n;have hi:i=1\/i=2\/i=3:=by lia
 have e:j=2\/j=3\/j=4:=by lia
 rcases hi with rfl|rfl|rfl<;>rcases e with rfl|rfl|rfl<;>first|lia|show h.1.1|show h.1.2.1|show h.1.2.2|show h.2.1.1|show h.2.1.2|show h.2.2.1
structure Ls(τ:Nat->AD)(H:Hp):Prop where
 a:jR H (τ 1) zcE zcv
 b:jR H (τ 2) zcb zbX
 c:jR H (τ 3) z4g zbV
 d:jR H (τ 4) zb2 zb1
 n:∀i j:Nat,1<=i->i<j->j<=4->τ i≠τ j
theorem z0t{a:AD}{b:Pos}{q q':Str}(d:jR H T lp q)(h:jR H a b q')(n:T≠a)(k:Kp T H H'):jR H' a b q':=by
 rcases h with h|⟨c,h,oc,vs,t,h2,e⟩
 .exact .inl (k _ _ n.symm h)
 .exact .inr (c,k _ _ n.symm h,oc,vs,t,k _ _ (d.ne h2 λps z=>by cases z) h2,e)
def z92{q:Str}(a:jR H T lp q)(k:Kp T H H'):Nt H H':=λb o e n=>k b o (a.ne e n) e
theorem Ls.same(h:Ls τ H)(e:zw H H'):Ls τ H':=(h.a.same e,h.b.same e,h.c.same e,h.d.same e,h.n)
theorem Ls.kp1(h:Ls τ H)(k:Kp (τ 1) H H')(z:jR H' (τ 1) zcE zcv):Ls τ H':=(z,z0t h.a h.b (h.n 1 2 () () ()) k,z0t h.a h.c (h.n 1 3 () () ()) k,z0t h.a h.d (h.n 1 4 () () ()) k,h.n)
theorem Ls.kp2(h:Ls τ H)(k:Kp (τ 2) H H')(z:jR H' (τ 2) zcb zbX):Ls τ H':=(z0t h.b h.a (h.n 1 2 () () ()).symm k,z,z0t h.b h.c (h.n 2 3 () () ()) k,z0t h.b h.d (h.n 2 4 () () ()) k,h.n)
theorem Ls.kp3(h:Ls τ H)(k:Kp (τ 3) H H')(z:jR H' (τ 3) z4g zbV):Ls τ H':=(z0t h.c h.a (h.n 1 3 () () ()).symm k,z0t h.c h.b (h.n 2 3 () () ()).symm k,z,z0t h.c h.d (h.n 3 4 () () ()) k,h.n)
theorem Ls.kp4(h:Ls τ H)(k:Kp (τ 4) H H')(z:jR H' (τ 4) zb2 zb1):Ls τ H':=(z0t h.d h.a (h.n 1 4 () () ()).symm k,z0t h.d h.b (h.n 2 4 () () ()).symm k,z0t h.d h.c (h.n 3 4 () () ()).symm k,z,h.n)
def _root_.Lake.WorkOk.mono{CX:CXT}{k:Nat}{fs:List AD}{s:AE}{lf:AD}(W:-WorkOk CX j fs H s lf sp)(h:j<=k):-WorkOk CX k fs H s lf sp:=
 (W.here,λA A3 s' H' us vs Q E a=>W.run A A3 s' H' us vs Q E (a.mono h))
def _root_.Rw.RowsAt.nt(h:RowsAt H p rs)(k:Nt H H'):RowsAt H' p rs:=(k.lst h.1,λr m=>((h.2 r m).1,k.lst (h.2 r m).2))
theorem TabAt.nt{v:V}(h:TabAt th tr H v n)(k:Nt H H'):TabAt th tr H' v n:=by
 obtain⟨p,c,rp,rs,rfl,h1,d,a,b⟩:=h;show(p,c,rp,rs,rfl,k.tup h1,k.lst d,a.nt k,b)
theorem FourAt.nt(h:FourAt th tr H p)(k:Nt H H'):FourAt th tr H' p:=by
 obtain⟨v0,v1,v2,v3,h0,a,b,c,d⟩:=h;show(v0,v1,v2,v3,k.lst h0,a.nt k,b.nt k,c.nt k,d.nt k)
def _root_.Qs.QAt.nt{v:V}(h:QAt H q v)(k:Nt H H'):QAt H' q v:=h.mono λb xs e=>k.tup e
theorem z6G(h:wfQ th q):∀r∈kids q,wfQ th r:=by cases q<;>simp_all[kids,wfQ]
def z47(h:wfQ th q):∀r∈post q,wfQ th r:=z7r (λv=>z6G) _ h
inductive spHeadsOf(K:W.Frag)(Ce:Er->AD)(τ:Nat->AD)(vs:List V)(H:Hp)(Q:VK)(E:XK):Prop
 | mk:∀th tr q v tp,vs= [.ref tp,v]->FourAt th tr H tp->QAt H q v->(∀r∈post q,kj th r)->(post q).length<=8000000->Ls τ H->((post q).findSome? (jK th)=AB->∀(hp:AD)(H':Hp),Nt H H'->Ls τ H'->H' hp=AA (.lst ((ze th q).map V.str))->Q (.ref hp) H')->(∀e,(post q).findSome? (jK th)=AA e->∀H',Nt H H'->Ls τ H'->E (.ref (Ce e)) AB H')->spHeadsOf K Ce τ vs H Q E
theorem z85:FnScope ["tables","question"] ["tables","question"] (zj z1t):=by done
theorem z73{c:AD}(F:Fun K "heads_of" "heads_of" z1t f fd)(T:Txt K mg)(hc:fd.code= .ref c)(C:PySem.W.CodeHd base c (τ 1))(B:base.BuiltinsAt mg (τ 1))(d:-KnS (CXR P w) 9 "built_up" ["question","work"] (-z3l Ce 8))(i:-KnX 3 "heads_at" ["tables","question","within"] (spHeadsAt K Ce)):-FnOk (CXR P w) 10 f fd ["tables","question"] (spHeadsOf K Ce τ):=by
 show F.okCX z85 (λvs H Q E h=>?_) (λA A3 s H vs Q E O h=>?_)
 .obtain⟨th,tr,q,v,tp,rfl,_⟩:=h
  rfl
 obtain⟨th,tr,q,v,tp,rfl,S,hq,lm,hsz,I,fin,bad⟩:=h;show(_,(zf (zt (z2O (k:=3) (T:=τ 1) (c:=c) (j:=0) (a:="place") (b:="within") (y:="tables") d jg.passes O rfl (pv 1) hc C B (rfl,rfl,rfl,rfl,rfl,rfl,(),(),()) (w0v rfl) rfl
  (λm m m m m m m m hl=>jo i z9V hl rfl (za (pv 2) (za (pv 0) (za (pv 1) zb))))))),?_)
 show !(I.a,.ref tp,rfl,λlf c' H2 s2 k2 cJ W=>?_);have p:=z92 I.a k2;have G:=I.kp1 k2 (.inr (c',cJ));show(v,q,lf,_,Ls τ,zdY th,jK th,rfl,hq.nt p,hsz,W.mono (),G,λH1 H2 e z=>z.same e,λr u H1 H2 n ⟨l,e,z⟩=>(l,e,n.lst z),λr Y M wl ws H3 Q1 R L N U rs k X=>?_,λe0 v' H' D t ⟨l,e,z⟩=>?_,λe x H' D t=>bad e x H' (p.trans D) t)
 .exact(M,.ref wl,rfl,!(!(!(th,tr,r,M,tp,wl,ws,rfl,S.nt (p.trans R),N,lm r Y,U,rs,λe l J o Z=>k e _ _ (Nt.of o) (L.same o) (l,rfl,Z),λe x J o=>X e x J (Nt.of o) (L.same o)))))
 .rw [e];show fin e0 l H' (p.trans D) t z
theorem z0q:∀q:Qn,1<=bd q
 | .table _=>by change 1<=60;decide
 | .pick _ q=>z0q q
 | .cols _ q=>z0q q
 | .pair q r=>Nat.mul_pos (z0q q) (z0q r)
 | .join _ _ q r=>Nat.mul_pos (z0q q) (z0q r)
 | .both q r=>wG (z0q q) (w1f _ _)
 | .first _ q=>z0q q
 | .group _ _ _ _ q=>z0q q
 | .sort _ q=>z0q q
theorem z6B:∀r∈kids q,bd r<=bd q:=λr m=>by
 cases q with
 | table n=>cases m
 | pair a b|join _ _ a b=>
  rcases wF.mp m with rfl|m
  .exact Nat.le_mul_of_pos_right _ (z0q b)
  .rw [wm.mp m];show Nat.le_mul_of_pos_left _ (z0q a)
 | both a b=>
  rcases wF.mp m with rfl|m
  .exact w1f _ _
  .rw [wm.mp m];show Nat.le_add_left _ _
 | pick _ a|cols _ a|first _ a|group _ _ _ _ a|sort _ a=>rw[wm.mp m];show wy _
def zdb(h:bd q<=N):∀r∈post q,bd r<=N:=z7r (P:=λr=>bd r<=N) (λq h r m=>wG (z6B r m) h) q h
inductive spROT(K:W.Frag)(vs:List V)(H:Hp)(Q:VK)(E:XK):Prop
 | mk:∀th tr tp n,vs= [.ref tp,.str n]->FourAt th tr H tp->n∈tabs->(∀(rp:AD)(rs:List (AD×List Int))(H':Hp),zw H H'->RowsAt H' rp rs->rs.map (·.2)=tr n->Q (.ref rp) H')->spROT K vs H Q E
theorem z3t:FnScope ["tables","name"] ["tables","name"] (zj kf):=by done
theorem z3q(F:Fun K "rows_of_table" "rows_of_table" kf f fd)(T:Txt K mg):-FnOk CX0 1 f fd ["tables","name"] (spROT K):=by
 clear z3t F;obtain⟨th,tr,tp,n,rfl,C,hn,fin⟩:=h;obtain⟨vs,t,o,d⟩:=z2T C;obtain⟨j,a,b⟩:=z9P hn;obtain⟨Z,c,Y,R,l,M,L,q,J,D,y⟩:=d j a;have uniq:∀i,i<4->tabs.getD i ""=n->i=j:=λi hi e=>by
  rw[<-b]at e;have u:∀i,i<4->∀j,j<4->tabs.getD i ""=tabs.getD j ""->i=j:=by decide
  show u i hi j a e
 rw[b]at q J y;intro ag A A3 N O;show(_,(zf (zt (ixL (jH rfl (CompSc.of (sx:=zj kf) (NX:= ["tables","name"]) (fr:= ["name"]) (ix:= [1]) rfl rfl ()) (zW v0) (λm m m m m m=>(z2o (cmT zO (yw (z0a (K:=K) rfl) v0 zd (λm m=>rfl)) v1))) (λm m m m m m=>(yw (z0a (K:=K) rfl) v0 zd (λm m=>rfl)))) zd))),?_);generalize hK0:K=K1
 revert K1
 show jF #[] ?_;show !(tp,rfl,(_,SqL.of t),?_);show z0I (xs:=vs) (λi ys H'=>H'=H/\ys=if j<i then [.ref l]else []) (rfl,by rw[wW (w1v _)]) ?_ ?_ ?_
 .rintro i ys H' hi ⟨rfl,rfl⟩;show(SqL.of t,zH (by split<;>simp))
 .rintro i x ys H' hi ⟨rfl,rfl⟩;have s:i<4:=by rw[<-o];show(we.mp hi).1
  obtain⟨v,r,p,U,rp,rs,rfl,B,t2,X,S⟩:=d i s;rw[hi]at r;cases r;show !(zi B zL (!(rfl,!?_)));by_cases e:tabs.getD i ""=n
  .refine ifT (by rw[j7];show qd e) ?_;have G:=uniq i s e;subst G;rw[hi]at c;cases c;cases L;show !(zi q jD (rfl,?_));rw[wW (QF _),qc (w0C _)]
   rfl
  .refine ifF (by rw[j7];show wL e) ?_;show(rfl,?_);have:i≠j:=λz=>e (by rw[z];show b)
   by_cases h:j<i
   .rw [qc h,qc ∅]
   .rw [wW h,wW ∅]
 .rintro ys H' ⟨rfl,rfl⟩ np I;rw[o,qc a];clear np I H1 n1 x1 np;show zy x1 zL (fin l M H1 n1 (D.same n1) y)
inductive spNums(K:W.Frag)(vs:List V)(H:Hp)(Q:VK)(E:XK):Prop
 | mk:∀rp sp (xs:List Int) (is:List Nat),vs= [.ref rp,.ref sp]->SqL K H rp (xs.map V.int)->SqL K H sp (is.map λi:Nat=>V.int (i:Int))->(∀i∈is,i<xs.length)->is.length<=1000->(∀(p:AD)(H':Hp),zw H H'->H p=AB->H' p=AA (.lst ((is.map λi=>xs.getD i 0).map V.int))->Q (.ref p) H')->spNums K vs H Q E
theorem z5e:FnScope ["row","spots"] ["row","spots"] (zj z0x):=by done
theorem z5v(F:Fun K "numbers_at" "numbers_at" z0x f fd)(T:Txt K mg):-FnOk CX0 1 f fd ["row","spots"] (spNums K):=by
 clear z5e F;obtain⟨rp,sp,xs,a,rfl,e,c,j,hl,fin⟩:=h;intro ag A A3 l n;show(_,(zf (zt (jH rfl (CompSc.of (sx:=zj z0x) (NX:= ["row","spots"]) (fr:= ["row"]) (ix:= [0]) rfl rfl ()) (zW v1) (λv v v v v v=>jm) (λv v v v v v=>(yw (yF (K:=K) rfl) v1 v0 (λv v=>rfl)))))),?_);generalize hK0:K=K1
 revert K1
 show jF #[] ?_;show !(sp,rfl,(_,c),?_);show je (xs:=a.map λi:Nat=>V.int (i:Int)) (λi ys H'=>H'=H/\ys=((a.take i).map λi=>xs.getD i 0).map V.int) (rfl,rfl) ?_ ?_ ?_
 .rintro i ys H' hi ⟨rfl,rfl⟩;show(c,zH (by rw[wa,wa,qi];lia))
 .rintro i x ys H' hi ⟨rfl,rfl⟩;have b:i<a.length:=by
   have:=(we.mp hi).1
   rwa [wa]at this
  rw[wK,wb b]at hi;cases hi;show !(!(rp,_,_,!(rfl,e,zZ (int_at (j _ (wz b))),rfl,?_)));rw[qA,wb b,wT,wT]
  rfl
 .rintro ys H' ⟨rfl,rfl⟩ np d;rw[wa,qP];clear np d H1 n1 x1 np;show fin np H1 n1 d x1
inductive spPaired(K:W.Frag)(vs:List V)(H:Hp)(Q:VK)(E:XK):Prop
 | mk:∀a b rs os w1 w2,vs= [.ref a,.ref b]->RowsAt H a rs->RowsAt H b os->rs.length*os.length<=900000->os.length<=900000->Wid w1 rs->Wid w2 os->w1+w2<=200->(∀(p:AD)(qs:List (AD×List Int))(H':Hp),zw H H'->RowsAt H' p qs->Wid (w1+w2) qs->qs.length<=rs.length*os.length->Q (.ref p) H')->spPaired K vs H Q E
theorem z3H:FnScope ["rows","others","found","row"] ["rows","others"] (zj z35):=by done
theorem zaL(F:Fun K "paired" "paired" z35 f fd)(T:Txt K mg):-FnOk CX0 1 f fd ["rows","others"] (spPaired K):=by
 clear z3H F;obtain⟨a,b,rs,os,w1,w2,rfl,ha,D,hlen,AF,Y,Z,ww,fin⟩:=(h);intro ag A A3 sh hr;show(_,(zc (seT 2 z3H (zD zb))
  (zc (foR (zW v0) (z0E (i:=3) z3H.nd rfl (QO rfl))
   (zf (jb (kH wR PySem.F.slot_list_extend PySem.F.type_list_extend z5H v2 (z0z (jH rfl (CompSc.of (sx:=zj z35) (NX:= ["rows","others","found","row"]) (fr:= ["row"]) (ix:= [3]) rfl rfl ()) (zW v1) (λv v v v v v=>jm) (λv v v v v v=>(zq ju v1 v0))) zb)))))
  (zf (zt v2)))),?_)
 ac_rfl;clear fp bG H1 n1 x1;have U:(refs rs).length=rs.length:=wa _;have N:(refs os).length=os.length:=wa _;show !(a,rfl,(_,SqL.of (n1 _ _ ha.1)),z25 (xs:=refs rs) (λi σ H'=>∃(c:List (AD×List Int))(t:Option V),σ= [AA (.ref a),AA (.ref b),AA (.ref fp),t]/\zw H H'/\RowsAt H' fp c/\Wid (w1+w2) c/\c.length=i*os.length)
  ([],AB,rfl,n1,yG x1,⟨λv z=>(nomatch z)⟩,(Nat.zero_mul _).symm) ?_ ?_ ?_)
 .rintro i σ H' _ ⟨c,t,rfl,s',_⟩;show SqL.of (s' _ _ ha.1)
 .rintro i x σ H' hi ⟨c,t,rfl,q,o,I,C⟩;have J:i<rs.length:=by
   have:=(we.mp hi).1
   rwa [U]at this
  rw[y7 J]at hi;cases hi;have bC:=(ha.2 _ (wz J)).2;have sv:=Y.e _ (wz J);have Fx:c.length+os.length<=900000:=by
   have h1:(i+1)*os.length<=rs.length*os.length:=QD _ ∅;rw[w00,w1w]at h1
   lia
  show !(.inl (rfl,_,SqL.of o.1),!(b,rfl,(_,SqL.of (q _ _ D.1)),?_));show je (xs:=refs os) (λj ys l=>zw H' l/\∃ps:List (AD×List Int),ys=refs ps/\(∀p∈ps,H' p.1=AB/\l p.1=AA (.lst (p.2.map V.int)))/\Wid (w1+w2) ps/\ps.length=j) (zw.refl _,[],rfl,λv z=>(nomatch z),⟨λv z=>(nomatch z)⟩,rfl) ?_ ?_ ?_
  .rintro j ys l u ⟨d,ps,rfl,n,B,e⟩;show(SqL.of (d _ _ (q _ _ D.1)),zH (by rw[wa];lia))
  .rintro j y ys l u ⟨d,ps,rfl,n,B,e⟩;have G:j<os.length:=by
    have:=(we.mp u).1
    rwa [N]at this
   rw[y7 G]at u;cases u;have AG:=(D.2 _ (wz G)).2;have sy:=Z.e _ (wz G);show !(!(rs[i].1,os[j].1,_,!(rfl,d _ _ (q _ _ bC),d _ _ (q _ _ AG),zR (by rw[wa,wa];lia),λnp S=>?_)));clear np S H4 n4 x4 np;rw[<-wT]at x4;show(d.trans n4,ps++[(np,rs[i].2++os[j].2)],by simp[refs],λp hp=>?_,⟨λp hp=>?_⟩,by rw[wg,e];rfl)
   .rcases wA.mp hp with hp|hp
    .exact((n p hp).1,n4 _ _ (n p hp).2)
    .rw [wm.mp hp];show(d.free S,x4)
   .rcases wA.mp hp with hp|hp
    .exact B.e p hp
    .rw [wm.mp hp];change(_++_:List Int).length=_;rw[wg,sv,sy]
  .rintro ys l ⟨d,ps,rfl,n,B,R⟩ L X;rw[N]at R;clear L X H4 n4 x4 L;have M:=d.trans n4;have s:=o.same M;show(fp,L,_,!(rfl,s.1,x4,zR (by rw[wa,wa];lia),?_));show(c++ps,!((q.trans M).put bG,(by rw[zm];simp[refs],λr m=>?_),⟨λr m=>(wA.mp m).elim (I.e r) (B.e r)⟩,by rw[wg,C,R,Nat.succ_mul]))
   .rcases wA.mp m with m|m
    .exact((s.2 r m).1,by rw[zn (s.2 r m).1];show(s.2 r m).2)
    .have O:=n r m;have nf:r.1≠fp:=λz=>by
      have:=O.1;rw[z,o.1]at this;cases this
     show(nf,by rw[zn nf];show n4 _ _ O.2)
 .rintro σ H' ⟨c,t,rfl,s',o,I,C⟩;rw[U]at C;show !(fin fp c H' s' o I (w1P C))
inductive spR1(K:W.Frag)(τ:Nat->AD)(vs:List V)(H:Hp)(Q:VK)(E:XK):Prop
 | mk:∀th tr q r v hp rp rs,vs= [v,.ref hp,.ref rp]->TabOk th tr->QAt H q v->kids q= [r]->wfQ th q->wfQ th r->H hp=AA (.lst ((ze th r).map V.str))->RowsAt H rp rs->Wid (ze th r).length rs->rs.length<=900000->Ls τ H->(∀(p:AD)(qs:List (AD×List Int))(H':Hp),Nt H H'->Ls τ H'->RowsAt H' p qs->Wid (ze th q).length qs->qs.length<=rs.length->Q (.ref p) H')->spR1 K τ vs H Q E
theorem z00:FnScope ["question","heads","rows","word","spots"] ["question","heads","rows"] (zj jX):=by done
theorem z3F(F:Fun K "rows_over_one" "rows_over_one" jX f fd)(T:Txt K mg)(D:-Kn 3 "holds" ["condition","heads","row"] (spHolds K))(d:-Kn 1 "numbers_at" ["row","spots"] (spNums K))(t:-Kn 2 "grouped" ["rows","spot","place"] (spGrouped K))(o:-Kn 3 "in_order" ["rows","spot"] (spOrder K (τ 3))):-FnOk CX0 4 f fd ["question","heads","rows"] (spR1 K τ):=by
 clear z00 F;obtain⟨th,tr,q,r,v,hp,rp,rs,rfl,TT,Y,I,wf,sB,J,G,Z,mI,L,fin⟩:=h;intro ag A A3 sh hr;show(_,(zc (seT 3 z00 (ixT v0 zd))
  (zc (zG (cmT zO v3 zg)
   (zf (zt (jH rfl (CompSc.of (sx:=zj jX) (NX:= ["question","heads","rows","word","spots"]) (fr:= ["question","heads"]) (ix:= [0,1]) rfl rfl ()) (zW v2) (λk k k k k k=>(z2o (jj (jd D hr.m (zp (yw (z0a (K:=K) rfl) v1 zd (λk k=>rfl)) (za v2 (za v0 zb))))))) (λk k k k k k=>v0))))
   zv)
  (zc (zG (cmT zO v3 zg)
   (zc (yU (i:=4) z00.nd rfl (QO rfl) (jH rfl (CompSc.of (sx:=zj jX) (NX:= ["question","heads","rows","word","spots"]) (fr:= ["heads"]) (ix:= [1]) rfl rfl ()) (z3n (ixT v0 zd)) (λk k k k k k=>jm) (λk k k k k k=>(z8g (K:=K) rfl wR qC qL (z67 (K:=K) rfl) v1 (za v0 zb)))))
   (zf (zt (jH rfl (CompSc.of (sx:=zj jX) (NX:= ["question","heads","rows","word","spots"]) (fr:= ["spots"]) (ix:= [4]) rfl rfl ()) (zW v2) (λk k k k k k=>jm) (λk k k k k k=>(jd d hr.m (za v0 (za v1 zb))))))))
   zv)
  (zc (zG (cmT zO v3 zg)
   (zf (zt (jd t hr.m (za v2 (zK (kH wR qC qL yi v1 (zp (ixT v0 zd) zb)) (zK (kH wR qC qL yi v1 (zp (ixT v0 zd) zb)) zb))))))
   zv)
  (zc (zG (cmT zO v3 zg)
   (zf (zt (jd o hr.m (za v2 (zK (kH wR qC qL yi v1 (zp (ixT v0 zd) zb)) zb)))))
   zv)
  (zf (zt (jy yN v2 yf (jI (ixT v0 zd)))))))))),?_)
 generalize hK0:K=K1;generalize hK1:τ=τ1
 revert τ1
 revert K1
 show z8X #[] ?_;have no:∀{a b:Str},a≠b->decide (V.str a=V.str b)=false:=λ{a b} h=>by rw[j7];show wL h
 have yes:∀a:Str,decide (V.str a=V.str a)=true:=λa=>qd rfl
 have X:(refs rs).length=rs.length:=wa _;have hd:=jM TT sB;have iE:=Z.e;have fT:∀{n:Str},n∈ze th r->∀x∈rs,(ze th r).idxOf n<x.2.length:=λ{n} hn x m=>by rw[iE x m];show qF.mpr hn
 cases q with
 | table n=>cases I
 | pair a b=>cases I
 | join x y a b=>cases I
 | both a b=>cases I
 | pick c q'=>
  cases (show q'=r from(List.cons.inj I).1);obtain⟨p,x,y,rfl,h1,h2,h3⟩:=Y;show !(zi h1 zL ?_);show !(rfl,!?_);show ifT (yes _) ?_;show !(rp,rfl,(_,SqL.of G.1),?_);show z0I (xs:=refs rs) (λi ys H'=>zw H H'/\∃fs,ys=refs fs/\Sub rs i fs) (zw.refl _,[],rfl,Sub.nil) ?_ ?_ ?_
  .rintro i ys H' hi ⟨u,fs,rfl,C⟩;show(SqL.of (u _ _ G.1),zH (by have:=C.l;rw[wa];lia))
  .rintro i z ys H' hi ⟨u,fs,rfl,C⟩;have ao:i<rs.length:=by
    have:=(we.mp hi).1
    rwa [X]at this
   rw[y7 ao]at hi;cases hi;show !(zi (u _ _ h1) jc (!(!(c,x,hp,rs[i].1,ze th r,rs[i].2,rfl,h2.same u,wf.1,by have:=wf.2.1;lia,SqL.of (u _ _ J),SqL.of (u _ _ (G.2 _ (wz ao)).2),(iE _ (wz ao)).symm,λM B=>!?_))));cases ev (ze th r) rs[i].2 c with
   | true=>
    show ifT rfl ?_;show !(u.trans B,fs++[rs[i]],by simp[refs],C.on (wz ao))
   | false=>
    show ifF rfl ?_;show(u.trans B,fs,rfl,C.up (w0L _))
  .rintro ys H' ⟨u,fs,rfl,C⟩ np U;rw[X]at C;clear np U H2 n2 x2 np;have s2:=u.trans n2;show fin np fs H2 (Nt.of s2) (L.same s2) (ym U n2 x2 λr m=>u _ _ (G.2 r (C.m r m)).2) (C.wid Z) C.l
 | cols ns q'=>
  cases (show q'=r from(List.cons.inj I).1);obtain⟨p,x,y,rfl,h1,h2,h3⟩:=Y;have sC:=wf.2.1;have dJ:ns.length<=100:=wG (zcp wf.1 sC) hd.2;show !(zi h1 zL ?_);show !(rfl,!?_);show ifF (no ()) ?_;show !(rfl,!?_);show ifT (yes _) ?_;show !(zi h1 jc (x,rfl,(_,SqT.of h2),?_));show z3A (xs:=ns.map V.str) (λi ys H'=>H'=H/\ys=((ns.take i).map λn=>(ze th r).idxOf n).map λi:Nat=>V.int (i:Int)) (rfl,rfl) ?_ ?_ ?_
  .rintro i ys H' hi ⟨rfl,rfl⟩;show(SqT.of h2,zH (by rw[wa,wa,qi];lia))
  .rintro i z ys H' hi ⟨rfl,rfl⟩;have bj:i<ns.length:=by
    have:=(we.mp hi).1
    rwa [wa]at this
   rw[wK,wb bj]at hi;cases hi;have eG:=jn (sC _ (wz bj));show !(.inl (rfl,_,SqL.of J),!(hp,_,_,(ze th r).idxOf ns[i],rfl,rfl,SqL.of J,rfl,zY _,eG.1,eG.2,rfl,?_));rw[qA,wb bj,wT,wT]
   rfl
  .rintro ys H' ⟨rfl,rfl⟩ sp aD;rw[wa,qP];clear sp aD H1 n1 x1 sp;have sD:=G.same n1;show !(rp,rfl,(_,SqL.of sD.1),?_);show je (xs:=refs rs) (λj ys M=>zw H1 M/\∃ps:List (AD×List Int),ys=refs ps/\(∀p∈ps,H1 p.1=AB/\M p.1=AA (.lst (p.2.map V.int)))/\Wid ns.length ps/\ps.length=j) (zw.refl _,[],rfl,λk z=>(nomatch z),⟨λk z=>(nomatch z)⟩,rfl) ?_ ?_ ?_
   .rintro j ys M S ⟨B,ps,rfl,R,wp,e⟩;show(SqL.of (B _ _ sD.1),zH (by rw[X]at S;rw[wa];lia))
   .rintro j z ys M S ⟨B,ps,rfl,R,wp,e⟩;have iR:j<rs.length:=by
     have:=(we.mp S).1
     rwa [X]at this
    rw[y7 iR]at S;cases S;have hm:=wz iR;show !(!(rs[j].1,sp,rs[j].2,ns.map λn=>(ze th r).idxOf n,rfl,SqL.of (B _ _ (sD.2 _ hm).2),SqL.of (B _ _ x1),λi m=>?_,by rw[wa];lia,λnp H4 O ac x4=>?_))
    .obtain⟨n,hn,rfl⟩:=Q0.mp m;show fT (sC n hn) _ hm
    .refine(B.trans O,ps++[(np,(ns.map λn=>(ze th r).idxOf n).map λi=>rs[j].2.getD i 0)],by simp[refs],λp hp=>?_,⟨λp hp=>?_⟩,by rw[wg,e];rfl)
     .rcases wA.mp hp with hp|hp
      .exact((R p hp).1,O _ _ (R p hp).2)
      .rw [wm.mp hp];show(B.free ac,x4)
     .rcases wA.mp hp with hp|hp
      .exact wp.e p hp
      .rw [wm.mp hp];change(List.map _ (List.map _ ns)).length=_;rw[wa,wa]
   .rintro ys M ⟨B,ps,rfl,R,wp,e⟩ np U;rw[X]at e;clear np U H4 O x4 np;have s4:=n1.trans (B.trans O);show fin np ps H4 (Nt.of s4) (L.same s4) (ym U O x4 λr m=>(R r m).2) wp (w1P e)
 | group a b n s q'=>
  cases (show q'=r from(List.cons.inj I).1);obtain⟨p,y,rfl,h1,h3⟩:=Y;show !(zi h1 zL ?_);show !(rfl,!?_);show ifF (no ()) ?_;show !(rfl,!?_);show ifF (no ()) ?_;show !(rfl,!?_);show ifT (yes _) ?_;have N:=jn wf.1;have ib:=jn wf.2.1;show !(!(.inl (rfl,_,SqL.of J),!(zi h1 jc (hp,_,_,(ze th r).idxOf a,rfl,rfl,SqL.of J,rfl,zY _,N.1,N.2,!(.inl (rfl,_,SqL.of J),!(zi h1 jD (hp,_,_,(ze th r).idxOf b,rfl,rfl,SqL.of J,rfl,zY _,ib.1,ib.2,?_)))))));show(rp,rs,_,_,_,rfl,G,w1l _,w1l _,Z,qF.mpr wf.1,qF.mpr wf.2.1,mI,λp qs H' s' aW e l=>fin p qs H' (Nt.of s') (L.same s') aW e l)
 | sort a q'=>
  cases (show q'=r from(List.cons.inj I).1);obtain⟨p,y,rfl,h1,h3⟩:=Y;show !(zi h1 zL ?_);show !(rfl,!?_);show ifF (no ()) ?_;show !(rfl,!?_);show ifF (no ()) ?_;show !(rfl,!?_);show ifF (no ()) ?_;show !(rfl,!?_);show ifT (yes _) ?_;have N:=jn wf.1;show !(!(.inl (rfl,_,SqL.of J),!(zi h1 jc (hp,_,_,(ze th r).idxOf a,rfl,rfl,SqL.of J,rfl,zY _,N.1,N.2,?_))));show(rp,rs,_,_,rfl,G,w1l _,Z,qF.mpr wf.1,mI,L.c,λp qs H' k' l' aW e l=>fin p qs H' (z92 L.c k') (L.kp3 k' l') aW e l)
 | first n q'=>
  cases (show q'=r from(List.cons.inj I).1);obtain⟨p,y,rfl,h1,h3⟩:=Y;show !(zi h1 zL ?_);show !(rfl,!?_);show ifF (no ()) ?_;show !(rfl,!?_);show ifF (no ()) ?_;show !(rfl,!?_);show ifF (no ()) ?_;show !(rfl,!?_);show ifF (no ()) ?_;show !(!(zi h1 jc (!(rp,!(SqL.of G.1,λl hl=>?_)))));rw[z1k wf.1,<-w1Z];clear l hl H1 n1 x1 l;show fin l (rs.take n.toNat) H1 (Nt.of n1) (L.same n1) (ym hl n1 x1 λr m=>(G.2 r (QB m)).2) ⟨λr m=>Z.e r (QB m)⟩ (by rw[qi];lia)
inductive ARes(th:Str->List Str)(r:Qn)(v:V)(H:Hp):Prop
 | mk:∀(p hp rp:AD)(rs:List (AD×List Int)),v= .ref p->H p=AA (.tup [.ref hp,.ref rp])->H hp=AA (.lst ((ze th r).map V.str))->RowsAt H rp rs->Wid (ze th r).length rs->rs.length<=bd r->ARes th r v H
theorem ARes.nt{v:V}(h:ARes th r v H)(k:Nt H H'):ARes th r v H':=by
 obtain⟨p,b,rp,rs,e,h1,h2,d,a,c⟩:=h;show(p,b,rp,rs,e,k.tup h1,k.lst h2,d.nt k,a,c)
inductive spR2(K:W.Frag)(vs:List V)(H:Hp)(Q:VK)(E:XK):Prop
 | mk:∀th tr q r t v v1 v2,vs= [v,v1,v2]->TabOk th tr->QAt H q v->kids q= [r,t]->wfQ th q->wfQ th r->wfQ th t->ARes th r v1 H->ARes th t v2 H->bd q<=900000->(∀(p:AD)(qs:List (AD×List Int))(H':Hp),zw H H'->RowsAt H' p qs->Wid (ze th q).length qs->qs.length<=bd q->Q (.ref p) H')->spR2 K vs H Q E
theorem z3s:FnScope ["question","first","second"] ["question","first","second"] (zj z0r):=by done
theorem z3B(F:Fun K "rows_over_two" "rows_over_two" z0r f fd)(T:Txt K mg)(j:-Kn 1 "paired" ["rows","others"] (spPaired K))(i:-Kn 1 "joined" ["rows","others","spot","place"] (spJoined K)):-FnOk CX0 2 f fd ["question","first","second"] (spR2 K):=by
 clear z3s F;obtain⟨th,tr,q,r,t,v,v1,v2,rfl,TT,S,o,wf,sB,AH,a1,a2,B,fin⟩:=h;obtain⟨p1,ba,O,G,rfl,f1,Z,D,M,l1⟩:=a1;obtain⟨p2,bt,L,C,rfl,f2,U,R2,N,l2⟩:=a2;intro ag A A3 sh Y;show(_,(zc (zG (cmT zO (ixT v0 zd) zg)
   (zf (zt (zq ju (ixT v1 zd) (ixT v2 zd))))
   zv)
  (zc (zG (cmT zO (ixT v0 zd) zg)
   (zf (zt (jd j Y.m (zp (ixT v1 zd) (zp (ixT v2 zd) zb)))))
   zv)
  (zf (zt (jd i Y.m (zp (ixT v1 zd) (zp (ixT v2 zd) (zK (kH wR qC qL yi (ixT v1 zd) (zp (ixT v0 zd) zb)) (zK (kH wR qC qL yi (ixT v2 zd) (zp (ixT v0 zd) zb)) zb))))))))),?_)
 ac_rfl;have no:∀{a b:Str},a≠b->decide (V.str a=V.str b)=false:=λ{a b} h=>by rw[j7];show wL h
 have yes:∀a:Str,decide (V.str a=V.str a)=true:=λa=>qd rfl
 have d1:=(jM TT sB).2;have d2:=(jM TT AH).2;have lt:C.length<=900000:=wG l2 (wG (z6B t (by rw[o];show .tail _ (.head _))) B);cases q with
 | table n=>cases o
 | pick c a=>cases o
 | cols ns a=>cases o
 | first n a=>cases o
 | sort n a=>cases o
 | group a b n s q=>cases o
 | both a b=>
  obtain⟨rfl,u⟩:=List.cons.inj o;obtain⟨rfl,_⟩:=List.cons.inj u;obtain⟨p,x,y,rfl,h1,h2,X⟩:=S;show !(zi h1 zL (rfl,!?_));show ifT (yes _) ?_;show !(zi f1 jc (!(zi f2 jc (O,L,~~~(D.1,R2.1,zR (by rw[wa,wa];have:bd a+bd b<=900000:=B;lia),λl hl=>?_)))));clear l hl H1 n1 x1 l;show fin l (G++C) H1 n1 (ym hl n1 (by rw[x1];simp[refs]) λz m=>?_) ⟨λz m=>(wA.mp m).elim (M.e z) λm=>by rw[N.e z m,<-wf.1];rfl⟩ (by rw[wg];show Nat.add_le_add l1 l2);rcases wA.mp m with m|m
  .exact(D.2 z m).2
  .exact(R2.2 z m).2
 | pair a b=>
  obtain⟨rfl,u⟩:=List.cons.inj o;obtain⟨rfl,_⟩:=List.cons.inj u;obtain⟨p,x,y,rfl,h1,h2,X⟩:=S;show !(zi h1 zL (rfl,!?_));show ifF (no ()) ?_;show !(zi h1 zL (rfl,!?_));show ifT (yes _) ?_;show !(zi f1 jc (!(zi f2 jc (O,L,G,C,_,_,rfl,D,R2,wG (Qk l1 l2) B,lt,M,N,∅,λl J H' s' R e I=>fin l J H' s' R (by change Wid (_++_:List Str).length _;rw[wg];show e) (wG I (Qk l1 l2))))))
 | join c d a b=>
  obtain⟨rfl,u⟩:=List.cons.inj o;obtain⟨rfl,_⟩:=List.cons.inj u;obtain⟨p,x,y,rfl,h1,h2,X⟩:=S;show !(zi h1 zL (rfl,!?_));show ifF (no ()) ?_;show !(zi h1 zL (rfl,!?_));show ifF (no ()) ?_;have ic:=jn wf.1;have id:=jn wf.2.1;show !(zi f1 jc (!(zi f2 jc (!(zi f1 zL (.inl (rfl,_,SqL.of Z),!(zi h1 jc (ba,_,_,(ze th a).idxOf c,rfl,rfl,SqL.of Z,rfl,zY _,ic.1,ic.2,!(zi f2 zL (.inl (rfl,_,SqL.of U),!(zi h1 jD (bt,_,_,(ze th b).idxOf d,rfl,rfl,SqL.of U,rfl,zY _,id.1,id.2,?_))))))))))));show(O,L,G,C,_,_,_,_,rfl,D,R2,w1l _,w1l _,M,N,qF.mpr wf.1,qF.mpr wf.2.1,∅,wG (Qk l1 l2) B,lt,λl J H' s' R e I=>fin l J H' s' R (by change Wid (_++_:List Str).length _;rw[wg];show e) (wG I (Qk l1 l2)))
inductive spRowsAt(K:W.Frag)(τ:Nat->AD)(vs:List V)(H:Hp)(Q:VK)(E:XK):Prop
 | mk:∀th tr q v tp wl ws,vs= [.ref tp,v,.ref wl]->TabOk th tr->FourAt th tr H tp->QAt H q v->wfQ th q->bd q<=900000->H wl=AA (.lst ws)->z0i (ARes th) H (kids q) ws->Ls τ H->(∀(p:AD)(qs:List (AD×List Int))(H':Hp),Nt H H'->Ls τ H'->RowsAt H' p qs->Wid (ze th q).length qs->qs.length<=bd q->Q (.ref p) H')->spRowsAt K τ vs H Q E
theorem z8u:FnScope ["tables","question","within"] ["tables","question","within"] (zj z3w):=by done
theorem z8A(F:Fun K "rows_at" "rows_at" z3w f fd)(T:Txt K mg)(a:-Kn 1 "rows_of_table" ["tables","name"] (spROT K))(b:-Kn 4 "rows_over_one" ["question","heads","rows"] (spR1 K τ))(c:-Kn 2 "rows_over_two" ["question","first","second"] (spR2 K)):-FnOk CX0 5 f fd ["tables","question","within"] (spRowsAt K τ):=by
 clear z8u F;obtain⟨th,tr,q,v,tp,wl,ws,rfl,TT,O,G,wf,I,d,rs,B,fin⟩:=(h);intro ag A A3 sh z;show(_,(zc (zG (cmT zO (leN T.len (za v2 zb)) zd)
   (zf (zt (jd a z.m (za v0 (zp (ixT v1 zd) zb)))))
   zv)
  (zc (zG (cmT zO (leN T.len (za v2 zb)) zd)
   (zf (zt (jd b z.m (za v1 (zp (ixT (ixL v2 zd) zd) (zp (ixT (ixL v2 zd) zd) zb))))))
   zv)
  (zf (zt (jd c z.m (za v1 (zp (ixL v2 zd) (zp (ixL v2 zd) zb)))))))),?_)
 generalize hK0:K=K1;generalize hK1:τ=τ1
 revert τ1
 revert K1
 show z8X #[] ?_;have C:=rs.len;have j:=z6G wf;rcases zcz G with⟨n,p,rfl,rfl,hp⟩|⟨r,p,w,xs,y,hk,rfl,hp,hy,bj,hw⟩|⟨r,t,p,w,xs,x,y,hk,rfl,hp,hx,hy,bj,hw⟩
 .have l0:ws.length=0:=C;show !(wl,!(.inl (SqL.of d),rfl,!?_));show ifT (by rw[l0];simp) ?_;show !(!(zi hp jc (th,tr,tp,n,rfl,O,wf,λrp rs H' s' i e=>fin rp rs H' (Nt.of s') (B.same s') i ⟨λr m=>TT.rl n wf r.2 (by rw[<-e];show Q0.mpr (r,m,rfl))⟩ (by have:=zbH TT n wf;rw[<-e,wa]at this;show this))))
 .rw [hk]at rs C j;obtain⟨u,us,rfl,⟨p1,U,J,bD,rfl,f1,R,X,Y,l1⟩,D⟩:=(rs);have ik:us= []:=D;subst ik;have l:r∈ [r]:=wm.mpr rfl;have bk:=z6B r (by rw[hk];show l);show !(wl,!(.inl (SqL.of d),rfl,!?_));show ifF (by simp) ?_;show !(wl,!(.inl (SqL.of d),rfl,!?_));show ifT (by simp) ?_;show !(!(zy d zL (zi f1 zL (!(zy d zL (zi f1 jc (th,tr,q,r,.ref p,U,J,bD,rfl,TT,G,hk,wf,j r l,R,X,Y,wG l1 (wG bk I),B,λp s H' S M i w o=>fin p s H' S M i w (wG o (wG l1 bk)))))))))
 .rw [hk]at rs C j;obtain⟨u,us,rfl,N,u2,Z,rfl,D,L⟩:=(rs);have hX:Z= []:=L;subst hX;have l:r∈ [r,t]:=qI;have mt:t∈ [r,t]:=q5 _ (wm.mpr rfl);show !(wl,!(.inl (SqL.of d),rfl,!?_));show ifF (by simp) ?_;show !(wl,!(.inl (SqL.of d),rfl,!?_));show ifF (by simp) ?_;show !(!(zy d zL (!(zy d jc (th,tr,q,r,t,.ref p,u,u2,rfl,TT,G,hk,wf,j r l,j t mt,N,D,I,λp s H' s' i w o=>fin p s H' (Nt.of s') (B.same s') i w o)))))
theorem z7T{th:Str->List Str}{H:Hp}:∀{b:List Qn} {ws:List V},z0i (ARes th) H b ws->∃hs:List AD,hs.length=ws.length/\z0i (zdY th) H b (hs.map V.ref)/\∀(i:Nat)(v:V),ws[i]? =AA v->∃(p h r:AD),v=V.ref p/\H p=AA (.tup [.ref h,.ref r])/\hs[i]? =AA h
 | [],_,h=>by
  have e:_= []:=h;subst e;show([],rfl,rfl,λi v z=>by cases z)
 | q::b,_,(v,us,e,(p,a,rp,rs,ev,h1,h2,d,_,_),c)=>by
  obtain⟨hs,l1,r1,f1⟩:=z7T c;subst e;show(a::hs,by rw[wP,wP,l1],(.ref a,hs.map V.ref,rfl,(a,rfl,h2),r1),λi u z=>?_);cases i with
  | zero=>cases z;show(p,a,rp,ev,h1,rfl)
  | succ i=>show f1 i u (by simpa using z)
inductive spAnswerAt(K:W.Frag)(τ:Nat->AD)(vs:List V)(H:Hp)(Q:VK)(E:XK):Prop
 | mk:∀th tr q v tp wl ws,vs= [.ref tp,v,.ref wl]->TabOk th tr->FourAt th tr H tp->QAt H q v->wfQ th q->bd q<=900000->H wl=AA (.lst ws)->z0i (ARes th) H (kids q) ws->Ls τ H->(∀(v':V)(H':Hp),Nt H H'->Ls τ H'->ARes th q v' H'->Q v' H')->spAnswerAt K τ vs H Q E
def z0i.resN{a:List Qn}(h:z0i (ARes th) H a ws)(k:Nt H H'):z0i (ARes th) H' a ws:=h.imp λv v z=>z.nt k
theorem z2q(q:Qn):(kids q).length<=2:=by cases q<;>simp[kids]
theorem z34:FnScope ["tables","question","within","heads"] ["tables","question","within"] (zj z16):=by done
theorem z6C(F:Fun K "answer_at" "answer_at" z16 f fd)(T:Txt K mg)(a:-KnX 3 "heads_at" ["tables","question","within"] (spHeadsAt K Ce))(b:-Kn 5 "rows_at" ["tables","question","within"] (spRowsAt K τ)):-FnOk CX0 6 f fd ["tables","question","within"] (spAnswerAt K τ):=by
 clear z34 F;obtain⟨th,tr,q,v,tp,wl,ws,rfl,TT,o,s,wf,B,c,rs,I,fin⟩:=h;obtain⟨hs,D,J,O⟩:=z7T rs;have U:=rs.len;have Y:=z2q q;intro ag A A3 S l;show(_,(zc (seT 3 z34 (jo a z4m l.m rfl (za v0 (za v1 (z0z (jH rfl (CompSc.of (sx:=zj z16) (NX:= ["tables","question","within","heads"]) (fr:= []) (ix:= []) rfl rfl ()) (zW v2) (λk k k k k k=>jm) (λk k k k k k=>(yw (z0a (K:=K) rfl) v0 zd (λk k=>rfl)))) zb)))))
  (zf (zt (zu (za v3 (zK (jd b l.m (za v0 (za v1 (za v2 zb)))) zb)))))),?_)
 generalize hK0:K=K1;generalize hK1:τ=τ1
 revert τ1
 revert K1
 show z8X #[] ?_;show !(!(!(wl,rfl,(_,SqL.of c),?_)));show je (xs:=ws) (λi ys H'=>H'=H/\ys=(hs.take i).map V.ref) (rfl,rfl) ?_ ?_ ?_
 .rintro i ys H' hi ⟨rfl,rfl⟩;show(SqL.of c,zH (by rw[wa,qi];lia))
 .rintro i x ys H' hi ⟨rfl,rfl⟩;obtain⟨p,h,r,rfl,h1,h2⟩:=O i x hi;show !(zi h1 zL (rfl,?_));rw[qA,h2,wT]
  rfl
 .rintro ys H' ⟨rfl,rfl⟩ np M;rw[<-D,qP];clear np M H1 n1 x1 np;show(th,tr,q,v,tp,np,_,rfl,o.same n1,s.same n1,(z4x TT wf).2,x1,J.imp λr u ⟨d,e,z⟩=>(d,e,n1 _ _ z),λk d H2 t R=>?_,λe n=>by rw[(z4x TT wf).1]at n;cases n);have n12:=n1.trans t;show !(!(!(!(th,tr,q,v,tp,wl,ws,rfl,TT,o.same n12,s.same n12,wf,B,n12 _ _ c,rs.resN (Nt.of n12),I.same n12,λrp y X j C L G N=>?_))));clear ap hap H4 n4 x4;show fin _ H4 ((Nt.of n12).trans (j.trans (Nt.of n4))) (C.same n4) (ap,d,rp,y,rfl,x4,n4 _ _ (j.lst R),L.same n4,G,N)
inductive spPlain(K:W.Frag)(Ce:Er->AD)(τ:Nat->AD)(vs:List V)(H:Hp)(Q:VK)(E:XK):Prop
 | mk:∀th tr q v tp,vs= [.ref tp,v]->TabOk th tr->FourAt th tr H tp->QAt H q v->(∀r∈post q,kj th r)->(post q).length<=8000000->Ls τ H->((post q).findSome? (jK th)=AB->wfQ th q/\bd q<=900000)->((post q).findSome? (jK th)=AB->∀(v':V)(H':Hp),Nt H H'->Ls τ H'->Q v' H')->(∀e,(post q).findSome? (jK th)=AA e->∀H',Nt H H'->Ls τ H'->E (.ref (Ce e)) AB H')->spPlain K Ce τ vs H Q E
theorem z46:FnScope ["tables","question"] ["tables","question"] (zj kI):=by done
theorem z3T{c:AD}(F:Fun K "plain_answer" "plain_answer" kI f fd)(T:Txt K mg)(hc:fd.code= .ref c)(C:PySem.W.CodeHd base c (τ 2))(B:base.BuiltinsAt mg (τ 2))(l:-KnX 10 "heads_of" ["tables","question"] (spHeadsOf K Ce τ))(i:-KnS (CXR P w) 9 "built_up" ["question","work"] (-z3l Ce 8))(d:-Kn 6 "answer_at" ["tables","question","within"] (spAnswerAt K τ)):-FnOk (CXR P w) 11 f fd ["tables","question"] (spPlain K Ce τ):=by
 show F.okCX z46 (λvs H Q E h=>?_) (λA A3 s H vs Q E x h=>?_)
 .obtain⟨th,tr,q,v,tp,rfl,_⟩:=h
  rfl
 obtain⟨th,tr,q,v,tp,rfl,TT,G,J,lm,hsz,hL,ok,fin,bad⟩:=h;show(_,(zc (jb (jo l jg x rfl (za (pv 0) (za (pv 1) zb))))
  (zf (zt (z2O (k:=6) (T:=τ 2) (c:=c) (j:=0) (a:="place") (b:="within") (y:="tables") i (E:=E0) z4m.passes (x.mono ()) rfl (pv 1) hc C B (rfl,rfl,rfl,rfl,rfl,rfl,(),(),()) (w0v rfl) rfl
  (λm m m m m m m m hl=>z75 d hl rfl (za (pv 2) (za (pv 0) (za (pv 1) zb)))))))),?_)
 show !(!(th,tr,q,v,tp,rfl,G,J,lm,hsz,hL,λL hp H1 X p x1=>?_,bad));obtain⟨wf,R⟩:=ok L;show !(p.b,.ref tp,rfl,λlf c' H2 s2 k2 cJ W=>?_);have o:=X.trans (z92 p.b k2);have t:=p.kp2 k2 (.inr (c',cJ));show(v,q,lf,_,Ls τ,ARes th,λm=>AB,rfl,J.nt o,hsz,W.mono (),t,λH1 H2 e z=>z.same e,λr u H1 H2 n z=>z.nt n,λr I M wl ws H3 Q1 O U N Z rs k m=>?_,λm v' H' Y S z=>fin L v' H' (o.trans Y) S,λe D=>by rw[List.findSome?_eq_none_iff.mpr λm m=>rfl]at D;cases D);show(M,.ref wl,rfl,!(!(!(th,tr,r,M,tp,wl,ws,rfl,TT,G.nt (o.trans O),N,z47 wf r I,zdb R r I,Z,rs,U,k rfl))))
inductive spAgain(K:W.Frag)(vs:List V)(H:Hp)(Q:VK)(E:XK):Prop
 | mk:∀th tr tp,vs= [.ref tp]->TabOk th tr->FourAt th tr H tp->(∀(p:AD)(H':Hp),zw H H'->FourAt th tr H' p->Q (.ref p) H')->spAgain K vs H Q E
def zbc{P:List α->Prop}(h:∀a,P [a]):∀us:List α,us.length=1->P us
 | [a],_=>h a
def z7g{P:List α->Prop}(h:∀a b,P [a,b]):∀us:List α,us.length=2->P us
 | a::l,e=>zbc (P:=λl=>P (a::l)) (h a) l (Nat.succ.inj e)
def zd4{P:List α->Prop}(h:∀a b c,P [a,b,c]):∀us:List α,us.length=3->P us
 | a::l,e=>z7g (P:=λl=>P (a::l)) (h a) l (Nat.succ.inj e)
def zdt{P:List α->Prop}(h:∀a b c d,P [a,b,c,d]):∀us:List α,us.length=4->P us
 | a::l,e=>zd4 (P:=λl=>P (a::l)) (h a) l (Nat.succ.inj e)
theorem zdO{ys:List V}(h:H p=AA (.lst ys))(hl:ys.length=4)(e:∀j,j<4->∃y,ys[j]? =AA y/\TabAt th tr H y (tabs.getD j "")):FourAt th tr H p:=by
 obtain⟨a,b,c,d,rfl⟩:∃a b c d,ys= [a,b,c,d]:=zdt (P:=λys=>∃a b c d,ys= [a,b,c,d]) (λv v v v=>(_,_,_,_,rfl)) ys hl
 obtain⟨_,q,n⟩:=e 0 ();obtain⟨_,l,i⟩:=e 1 ();obtain⟨_,o,r⟩:=e 2 ();obtain⟨_,f,s⟩:=e 3 ();cases q;cases l;cases o;cases f;show(a,b,c,d,h,n,i,r,s)
theorem z5q:FnScope ["_law_tables"] ["_law_tables"] (zj kO):=by done
theorem z5d(F:Fun K "_law_again" "_law_again" kO f fd)(T:Txt K mg):-FnOk CX0 1 f fd ["_law_tables"] (spAgain K):=by
 clear z5q F;obtain⟨th,tr,tp,rfl,TT,h4,fin⟩:=(h);obtain⟨vs,cy,R,dF⟩:=(z2T h4);intro ag A A3 sh hr;show(_,(zf (zt (jH rfl (CompSc.of (sx:=zj kO) (NX:= ["_law_tables"]) (fr:= []) (ix:= []) rfl rfl ()) (zW v0) (λk k k k k k=>jm) (λk k k k k k=>(zu (zp (yw (z0a (K:=K) rfl) v0 zd (λk k=>rfl)) (zK (jq (z2B (K:=K) rfl) rfl T.list qY (zp (yw (z0a (K:=K) rfl) v0 zd (λk k=>rfl)) zb)) (z0z (jH rfl (CompSc.of2 (sx:=zj kO) (NX:= ["_law_one"]) (fr:= []) (ix:= []) rfl rfl ()) (z7o (K:=K) rfl (yw (z0a (K:=K) rfl) v0 zd (λk k=>rfl))) (λk k k k k k=>jm) (λk k k k k k=>(jq (z2B (K:=K) rfl) rfl T.list qY (za v0 zb)))) zb)))))))),?_);generalize hK0:K=K1
 revert K1
 show jF #[] ?_;show !(tp,rfl,(_,SqL.of cy),?_);show je (xs:=vs) (λi ys H'=>zw H H'/\ys.length=i/\∀j,j<i->∃y,ys[j]? =AA y/\TabAt th tr H' y (tabs.getD j "")) (zw.refl _,rfl,λj z=>absurd z (w1v _)) ?_ ?_ ?_
 .rintro i ys H' hi ⟨b,hl,_⟩;show(SqL.of (b _ _ cy),zH (by rw[hl];lia))
 .rintro i x ys H' hi ⟨b,hl,s⟩;have Z:i<4:=by rw[<-R];show(we.mp hi).1
  obtain⟨v,U,p,hp,rp,rs,rfl,J,t2,t3,t4⟩:=(dF i Z);rw[hi]at U;cases U;have M:=zbH TT _ (z4Z Z);have ux:rs.length<=60:=by rw[<-t4,wa]at M;show M
  have B:(refs rs).length=rs.length:=wa _;have X:=b _ _ J;show !(zi X zL (!(zi X jc (hp,!(.inl (SqL.of (b _ _ t2)),λl gB=>?_)))));clear l gB H1 n1 x1 l;have N:=b.trans n1;have u:=t3.same N;show !(zi (N _ _ J) jD (rp,rfl,(_,SqL.of u.1),?_));show je (xs:=refs rs) (λj zs n=>zw H1 n/\∃a:List (AD×List Int),zs=refs a/\a.length=j/\(∀r∈a,H1 r.1=AB/\n r.1=AA (.lst (r.2.map V.int)))/\a.map (·.2)=(rs.take j).map (·.2)) (zw.refl _,[],rfl,rfl,λk z=>(nomatch z),rfl) ?_ ?_ ?_
  .rintro j zs n c ⟨d,a,rfl,C,_⟩;rw[B]at c;show(SqL.of (d _ _ u.1),zH (by rw[wa];lia))
  .rintro j y zs n c ⟨d,a,rfl,C,q,o⟩;have D:j<rs.length:=by
    have:=(we.mp c).1
    rwa [B]at this
   rw[y7 D]at c;cases c;show !(_,!(.inl (SqL.of (d _ _ (u.2 _ (wz D)).2)),λl2 L=>?_));have I:=zE L (.lst (rs[j].2.map V.int));show(d.trans I,a++[(l2,rs[j].2)],by simp[refs],by rw[wg,C];rfl,λr m=>?_,?_)
   .rcases wA.mp m with m|m
    .exact((q r m).1,I _ _ (q r m).2)
    .rw [wm.mp m];show(d.free L,zm)
   .rw [wT,o,qA,wb D,wT]
    rfl
  .rintro zs n ⟨d,a,rfl,C,q,o⟩ t S;rw[B,qP]at o;clear t S H4 n4 x4 t;clear tp2 htp2 H5 n5 x5;have O:=d.trans (n4.trans n5);have Y:=n1.trans O;show(b.trans Y,by rw[wg,hl];rfl,λj c=>?_);by_cases oU:j<i
   .obtain⟨y,G,ty⟩:=s j oU;show(y,by rw[List.getElem?_append_left ∅];show G,ty.same Y)
   .have e:j=i:=by lia
    subst e;show(_,by rw[QA ∅,hl,Nat.sub_self];rfl,tp2,l,t,a,rfl,x5,O _ _ x1,(ym S n4 x4 λr m=>(q r m).2).same n5,by rw[o];show t4)
 .rintro ys H' ⟨b,hl,s⟩ np ax;rw[R]at hl s;clear np ax H1 n1 x1 np;show fin np H1 (b.trans n1) (zdO x1 hl λj c=>?_);obtain⟨y,G,ty⟩:=(s j c);show(y,G,ty.same n1)
inductive spKept(K:W.Frag)(vs:List V)(H:Hp)(Q:VK)(E:XK):Prop
 | mk:∀th tr hp tp,vs= [.ref hp,.ref tp]->TabOk th tr->FourAt th tr H hp->FourAt th tr H tp->Q (.bl true) H->spKept K vs H Q E
theorem zdr(T:TabOk th tr)(h:n∈tabs):(th n).length<=100/\∀r∈tr n,r.length<=100:=by
 have h1:=(jM T (q:= .table n) h).2;show(h1,λr m=>by rw[T.rl n h r m];show h1)
theorem z2R:FnScope ["_law_handed","_law_tables","_law_k"] ["_law_handed","_law_tables"] (zj z23):=by done
theorem z6U(F:Fun K "_law_kept" "_law_kept" z23 f fd)(T:Txt K mg)(a:-Kn 1 "_law_texts" ["_law_found","_law_due"] (spTexts K))(b:-Kn 3 "_law_alike" ["_law_found","_law_due"] (spAlike K)):-FnOk CX0 4 f fd ["_law_handed","_law_tables"] (spKept K):=by
 clear z2R F;obtain⟨th,tr,B,tp,rfl,TT,G,N,q⟩:=(h);obtain⟨vs,c,U,J⟩:=(z2T G);obtain⟨us,j,s,Y⟩:=(z2T N);intro ag A A3 sh z;show(_,(zc (zG (cmT z1J (leN T.len (za v0 zb)) (leN T.len (za v1 zb)))
   (zf (zt yn))
   zv)
  (zc (foR (jW rfl T.range (zK (leN T.len (za v1 zb)) zb)) (gnM 2 z2R)
   (zc (zG (z1w (kh (jj (zM jw rfl T.isinstance wJ (zp (ixL v0 v2) (za (yK (v:= .ty "tuple") rfl T.tuple w0e rfl) zb))))) (cmT z1J (leN T.len (zp (ixL v0 v2) zb)) zd))
    (zf (zt yn))
    zv)
   (zc (zG (kh (jj (jd a z.m (zp (ixT (ixL v0 v2) zd) (zp (ixT (ixL v1 v2) zd) zb)))))
    (zf (zt yn))
    zv)
   (zc (zG (kh (jj (jd b z.m (zp (ixT (ixL v0 v2) zd) (zp (ixT (ixL v1 v2) zd) zb)))))
    (zf (zt yn))
    zv)
   (zf (zG (z1w (kh (jj (zM jw rfl T.isinstance wJ (zp (ixT (ixL v0 v2) zd) (za (yK (v:= .ty "str") rfl T.str Qm rfl) zb))))) (cmT z1J (ixT (ixL v0 v2) zd) (ixT (ixL v1 v2) zd)))
    (zf (zt yn))
    zv))))))
  (zf (zt yn)))),?_)
 ac_rfl;show !(B,!(.inl (SqL.of c),!(tp,!(.inl (SqL.of j),rfl,!?_))));show ifF (by rw[U,s];simp) ?_;show !(tp,!(.inl (SqL.of j),!(∅,by rw[s];decide,z1n (lo:=0) (n:=us.length) (λi σ H'=>∃x,σ= [AA (.ref B),AA (.ref tp),x]/\H'=H) (AB,rfl,rfl) ?_ ?_)))
 .rintro i σ H' hi ⟨x,rfl,rfl⟩;have y:i<4:=by rw[<-s];show hi
  obtain⟨v,X,p,h1,r1,bD,rfl,d,t2,S,t⟩:=(J i y);obtain⟨u,D,p',I,O,sF,rfl,l,L,Z,M⟩:=(Y i y);have e:atI vs (0+(i:Int))=AA (V.ref p):=by rw[w0G];show zZ X
  have o:atI us (0+(i:Int))=AA (V.ref p'):=by rw[w0G];show zZ D
  have mt:=z4Z y;obtain⟨wn,R⟩:=zdr TT mt;have C:=zbH TT _ mt;show !(!(zy c e (_,_,_,!(TyOf.tup d,yJ,!(_,(!(!(zy c e (p,!(.inr (SqT.of d),rfl,!(rfl,rfl)))))),?_)))));show ifF (by rfl) ?_;show !(!(zy c e (zi d jc (!(!(zy j o (zi l jc (h1,I,_,rfl,t2,SqL.of L,∅,!?_))))))));show ifF (by rfl) ?_;show !(!(zy c e (zi d jD (!(!(zy j o (zi l jD (r1,O,bD,sF,rfl,S,Z,by rw[t,M],by rw[<-t,wa]at C;lia,λr m=>by have:=R r.2 (by rw[<-t];show Q0.mpr (r,m,rfl));lia,!?_))))))));show ifF (by rfl) ?_;show !(!(zy c e (zi d zL (_,_,_,!(TyOf.str _,yJ,!(_,(!(!(zy c e (zi d zL (!(!(zy j o (zi l zL (rfl,!(rfl,rfl)))))))))),?_))))));show ifF (by simp) ?_;show !rfl
 .rintro σ H' ⟨x,rfl,rfl⟩;show q
theorem z3b(h:∀s∈c.cols,s∈hs):c.ok hs:=by
 have side:∀{a:Side},(∀s∈a.cols,s∈hs)->a.ok hs:=λ{a} h=>by
  cases a with
  | nm x=>show h x (wm.mpr rfl)
  | nu i=>trivial
 induction c with
 | less a b=>show(side λs m=>h s (qj _ m),side λs m=>h s (wE _ m))
 | same a b=>show(side λs m=>h s (qj _ m),side λs m=>h s (wE _ m))
 | no c j=>show j h
 | an c d f e=>show(f λs m=>h s (qj _ m),e λs m=>h s (wE _ m))
 | or c d f e=>show(f λs m=>h s (qj _ m),e λs m=>h s (wE _ m))
noncomputable def yS(ns hs:List Str):Bool:=ns.all λn=>decide (n∈hs)
theorem yv:yS ns hs=true↔∀n∈ns,n∈hs:=by simp[yS]
noncomputable def kX(th:Str->List Str)(x y:Str)(q r:Qn):Qn:=if x∈ze th q then .join x y q r else .join y x q r
noncomputable def yT(th:Str->List Str)(c:Cond)(mk:Qn->Qn->Qn)(a:Bool)(q r:Qn):Option Qn:=
 if yS c.cols (ze th q)=true then AA (mk (.pick c q) r)
 else if yS c.cols (ze th r)=true then AA (mk q (.pick c r))
 else match a,c with
  | true,.same (.nm x) (.nm y)=>AA (kX th x y q r)
  | _,_=>AB
noncomputable def z9k(th:Str->List Str)(c:Cond):Qn->Option Qn
 | .sort a q=>AA (.sort a (.pick c q))
 | .cols ns q=>AA (.cols ns (.pick c q))
 | .both q r=>AA (.both (.pick c q) (.pick c r))
 | .pair q r=>yT th c .pair true q r
 | .join a b q r=>yT th c (.join a b) false q r
 | _=>AB
noncomputable def yz(th:Str->List Str)(c:Cond)(q:Qn):Option Qn:=
 match c with
 | .an a b=>AA (.pick a (.pick b q))
 | c=>z9k th c q
noncomputable def beneath:Qn->Qn
 | .pick _ q=>beneath q
 | q=>q
noncomputable def zav:Cond->Bool
 | .an _ _=>true
 | _=>false
noncomputable def kl(th:Str->List Str):Qn->Option Qn
 | .pick c q=>match q with
  | .pick d r=>if zav c=true then yz th c (.pick d r)else if(yz th c (beneath r)).isSome=true then AA (.pick d (.pick c r))else AB
  | q=>yz th c q
 | .first n q=>match q with
  | .first m r=>AA (.first (min n m) r)
  | .cols ns r=>AA (.cols ns (.first n r))
  | _=>AB
 | .cols ns q=>match q with
  | .cols _ r=>AA (.cols ns r)
  | _=>AB
 | .sort a q=>match q with
  | .sort b r=>if b=a then AA (.sort b r)else AB
  | _=>AB
 | _=>AB
structure Eqv(th:Str->List Str)(q q':Qn):Prop where
 h:ze th q'=ze th q
 b:bd q'=bd q
 wf:wfQ th q'
inductive Prt(th:Str->List Str)(c:Cond)(mk:Qn->Qn->Qn)(b:Bool)(q r:Qn):Qn->Prop
 | l:yS c.cols (ze th q)=true->Prt th c mk b q r (mk (.pick c q) r)
 | r:yS c.cols (ze th r)=true->Prt th c mk b q r (mk q (.pick c r))
 | j:∀x y:Str,b=true->¬yS c.cols (ze th q)=true->¬yS c.cols (ze th r)=true->c= .same (.nm x) (.nm y)->Prt th c mk b q r (kX th x y q r)
theorem z1Y(e:yT th c mk b q r=AA q'):Prt th c mk b q r q':=by
 unfold yT at e;split at e
 .cases e;show .l ‹_›
 .split at e
  .cases e;show .r ‹_›
  .split at e<;>cases e
   show .j _ _ rfl ‹_› ‹_› rfl
theorem z2p(e:yz th c q=AA q'):(∃a b,c= .an a b/\q'= .pick a (.pick b q))\/z9k th c q=AA q':=by
 cases c with
 | an a b=>cases e;show .inl (_,_,rfl,rfl)
 | _=>show .inr e
inductive Trn(th:Str->List Str):Qn->Qn->Prop
 | s:∀c r q',yz th c r=AA q'->Trn th (.pick c r) q'
 | p:∀c d r,(yz th c (beneath r)).isSome=true->Trn th (.pick c (.pick d r)) (.pick d (.pick c r))
 | f:∀n m r,Trn th (.first n (.first m r)) (.first (min n m) r)
 | c:∀n l r,Trn th (.first n (.cols l r)) (.cols l (.first n r))
 | l:∀l m r,Trn th (.cols l (.cols m r)) (.cols l r)
 | o:∀a r,Trn th (.sort a (.sort a r)) (.sort a r)
theorem z3c(e:kl th q=AA q'):Trn th q q':=by
 cases q with
 | pick c r=>
  cases r with
  | pick d r=>
   unfold kl at e;dsimp only at e;split at e
   .exact .s _ _ _ e
   .split at e<;>cases e
    show .p _ _ _ ‹_›
  | _=>show .s _ _ _ e
 | sort a r=>
  cases r with
  | sort b r=>
   unfold kl at e;dsimp only at e;split at e<;>cases e
   subst b;show .o _ _
  | _=>cases e
 | first n r|cols n r=>cases r<;>cases e<;>constructor
 | _=>cases e
theorem zcr(sz:c.size<=20)(h:c.ok (ze th q++ze th r))(w:wfQ th (.pair q r))(e:yT th c .pair true q r=AA q'):Eqv th (.pick c (.pair q r)) q':=by
 obtain⟨b,l,d,f⟩:=w;rcases z1Y e with h1|h2|⟨x,y,_,h1,h2,rfl⟩
 .have ok:=z3b (yv.mp h1);show(rfl,rfl,b,l,(ok,sz,d),f)
 .have ok:=z3b (yv.mp h2);show(rfl,rfl,b,l,d,ok,sz,f)
 .have a:=wA.mp (show x∈_ from h.1);have i:=wA.mp (show y∈_ from h.2);simp only[yv,Cond.cols,Side.cols,wA,wm,forall_eq_or_imp,forall_eq]at h1 h2;unfold kX;by_cases hq:x∈ze th q
  .rw [qc hq];show(rfl,rfl,hq,i.resolve_left λz=>h1 (hq,z),b,l,d,f)
  .rw [wW hq];have a:=a.resolve_left hq;show(rfl,rfl,i.resolve_right λz=>h2 (a,z),a,b,l,d,f)
theorem zaf{a b:Str}(sz:c.size<=20)(n:wfQ th (.join a b q r))(e:yT th c (.join a b) false q r=AA q'):Eqv th (.pick c (.join a b q r)) q':=by
 obtain⟨ha,d,f,l,i,j⟩:=n;rcases z1Y e with h1|h2|⟨_,_,h⟩
 .have ok:=z3b (yv.mp h1);show(rfl,rfl,ha,d,f,l,(ok,sz,i),j)
 .have ok:=z3b (yv.mp h2);show(rfl,rfl,ha,d,f,l,i,ok,sz,j)
 .cases h
theorem zco(w:wfQ th (.pick c q))(e:yz th c q=AA q'):Eqv th (.pick c q) q':=by
 obtain⟨f,sz,d⟩:=w;rcases z2p e with⟨a,b,rfl,rfl⟩|e
 .have h:a.size<=20/\b.size<=20:=by simp only[Cond.size]at sz;lia
  show(rfl,rfl,f.1,h.1,f.2,h.2,d)
 cases q with
 | sort a r=>cases e;show(rfl,rfl,d.1,f,sz,d.2)
 | cols ns r=>
  cases e;show(rfl,rfl,d.1,d.2.1,z3b λs m=>d.2.1 s (z4H f s m),sz,d.2.2)
 | both r s=>
  cases e;have i:c.ok (ze th r):=f;show(rfl,rfl,d.1,(i,sz,d.2.1),d.1 ▸ i,sz,d.2.2)
 | pair r s=>show zcr sz f d e
 | join a b r s=>show zaf sz d e
 | _=>cases e
theorem z4S(w:wfQ th q)(e:kl th q=AA q'):Eqv th q q':=by
 rcases z3c e with⟨c,r,_,f⟩|⟨c,d,r,_⟩|⟨n,m,r⟩|⟨n,l,r⟩|⟨l,m,r⟩|⟨a,r⟩
 .exact zco w f
 .exact(rfl,rfl,w.2.2.1,w.2.2.2.1,w.1,w.2.1,w.2.2.2.2)
 .have hn:0<=n:=w.1;have hm:0<=m:=w.2.1;show(rfl,rfl,∅,w.2.2)
 .exact(rfl,rfl,w.2.1,w.2.2.1,w.1,w.2.2.2)
 .exact(rfl,rfl,w.1,λn m=>w.2.2.2.1 n (w.2.1 n m),w.2.2.2.2)
 .exact(rfl,rfl,w.2)
def nf(th:Str->List Str)(q:Qn):Prop:=∀r∈post q,kl th r=AB
theorem z4f(h:∀c r,q≠ .pick c r):beneath q=q:=by
 cases q with
 | pick c q=>show absurd rfl (h c q)
 | _=>rfl
theorem za6(h:zav c=true):(yz th c q).isSome=true:=by
 cases c<;>first|rfl|cases h
theorem zc6{d:Cond}(h:kl th (.pick d r)=AB):(yz th d (beneath r)).isSome=false:=by
 cases r with
 | pick e s=>
  unfold kl at h;dsimp only at h;split at h
  .next a=>
   have:=za6 (th:=th) (q:= .pick e s) a;rw[h]at this;cases this
  .split at h
   .cases h
   .exact Qg.mpr ‹_›
 | _=>
  have h:yz th d _=none:=h;rw[z4f (by intro c r e;cases e),h]
  rfl
noncomputable def zT:Qn->Nat->Qn->Qn
 | .table n,_,_=> .table n
 | .pick c _,_,k=> .pick c k
 | .cols ns _,_,k=> .cols ns k
 | .pair q r,i,k=>if i=0 then .pair k r else .pair q k
 | .join a b q r,i,k=>if i=0 then .join a b k r else .join a b q k
 | .both q r,i,k=>if i=0 then .both k r else .both q k
 | .first n _,_,k=> .first n k
 | .group a b n s _,_,k=> .group a b n s k
 | .sort a _,_,k=> .sort a k
theorem set_same{p k:Qn}(a:(kids p)[i]? =AA k):zT p i k=p:=by
 cases p<;>rcases i with _|_|i<;>cases a<;>rfl
theorem z21{p k:Qn}(h:i<(kids p).length):kids (zT p i k)=(kids p).set i k:=by
 cases p<;>rcases i with _|_|i<;>first|rfl|(simp only[kids,wP,QS]at h;lia)
theorem set_set{p k l:Qn}(h:i<(kids p).length):zT (zT p i k) i l=zT p i l:=by
 cases p<;>rcases i with _|_|i<;>rfl
theorem z6M{p k:Qn}(h:i<(kids p).length):(kids (zT p i k))[i]? =AA k:=by
 rw[z21 h,w0z h]
theorem Eqv.trans{s:Qn}(a:Eqv th q r)(b:Eqv th r s):Eqv th q s:=(b.h.trans a.h,b.b.trans a.b,b.wf)
def Eqv.refl(w:wfQ th q):Eqv th q q:=(rfl,rfl,w)
theorem z3r{p k l:Qn}(e:ze th k=ze th l):ze th (zT p i k)=ze th (zT p i l):=by
 cases p<;>rcases i with _|i<;>simp[zT,ze,e]
theorem ze4{p k:Qn}(w:wfQ th p)(c:(kids p)[i]? =AA k)(E:Eqv th k k'):Eqv th p (zT p i k'):=by
 obtain⟨b,a,d⟩:=E;cases p<;>rcases i with _|_|i<;>cases c<;>simp only[wfQ]at w<;>show(by simp[zT,ze,b],by simp[zT,bd,a],by simp_all[zT,wfQ])
theorem zgo(e:kl th q=AB)(h:∀k∈kids q,nf th k):nf th q:=λr m=>by
 rw[jP]at m;rcases wA.mp m with m|m
 .obtain⟨k,a,m⟩:=List.mem_flatMap.mp m;show h k a r m
 .rw [wm.mp m];show e
noncomputable def plug:List (Qn×Nat)->Qn->Qn
 | [],q=>q
 | (p,i)::c,q=>plug c (zT p i q)
def z0j(th:Str->List Str):List (Qn×Nat)->Qn->Prop
 | [],_=>True
 | (p,i)::c,q=>i<(kids p).length/\ze th (zT p i q)=ze th p/\z0j th c (zT p i q)
def z5C:∀{c:List (Qn×Nat)} {q q':Qn},ze th q'=ze th q->z0j th c q->z0j th c q'
 | [],_,_,_,_=>trivial
 | (p,i)::c,_,_,e,h=>(h.1,(z3r e).trans h.2.1,z5C (z3r e) h.2.2)
theorem zb3{c:List (Qn×Nat)}{p k:Qn}(a:(kids p)[i]? =AA k)(h:z0j th c p):z0j th ((p,i)::c) k:=
 ((we.mp a).1,by rw[set_same a],by rw[set_same a];show h)
theorem zad{c:List (Qn×Nat)}{p k:Qn}(a:(kids p)[i]? =AA k):plug ((p,i)::c) k=plug c p:=by
 change plug c (zT p i k)=_
 rw[set_same a]
def z2i:∀{c:List (Qn×Nat)} {q:Qn},z0j th c q->wfQ th (plug c q)->wfQ th q
 | [],_,_,w=>w
 | (p,i)::c,q,h,w=>z6G (z2i h.2.2 w) q (qB (z6M h.1))
theorem z7I:∀{c:List (Qn×Nat)} {q q':Qn},z0j th c q->wfQ th (plug c q)->Eqv th q q'->Eqv th (plug c q) (plug c q')
 | [],_,_,_,_,E=>E
 | (p,i)::c,q,q',h,w,E=>by
  have a:=ze4 (z2i h.2.2 w) (z6M h.1) E;rw[set_set h.1]at a;show z7I (c:=c) h.2.2 w a
noncomputable def wt:Qn->Nat
 | .table _=>1
 | .pick c q=>c.size*zx q+wt q
 | .cols _ q | .first _ q | .group _ _ _ _ q | .sort _ q=>wt q+1
 | .pair q r | .join _ _ q r | .both q r=>wt q+wt r+1
set_option tactic.hygienic true in
theorem z6T(q:Qn):(post q).length<=wt q:=by
 induction q
 case' pick c q h=>have h2:1*1<=c.size*zx q:=Qk c.size_pos (yq q)
 all_goals
  simp only[post,wt,wg,wZ,QS]
  lia
theorem zag{x y:Str}:kX th x y q r= .join x y q r\/kX th x y q r= .join y x q r:=by
 unfold kX;split<;>simp
theorem z9h(hm:∀x y,zx (mk x y)=zx x+zx y/\wt (mk x y)=wt x+wt y+1)(e:yT th c mk b q r=AA q'):zx q'=zx q+zx r/\wt q'<=c.size*(zx q+zx r)+(wt q+wt r+1):=by
 rw[QC];rcases z1Y e with _|_|⟨x,y⟩
 .rw [(hm _ _).1,(hm _ _).2];show(rfl,by simp only[wt];lia)
 .rw [(hm _ _).1,(hm _ _).2];show(rfl,by simp only[wt];lia)
 .rcases zag (th:=th) (x:=x) (y:=y) (q:=q) (r:=r)with h|h<;>rw[h]<;>show(rfl,by simp only[wt];lia)
theorem ze2(e:yz th c q=AA q'):zx q'=zx q/\wt q'<=c.size*zx q+wt q:=by
 rcases z2p e with⟨a,b,rfl,rfl⟩|e
 .refine(rfl,?_);have:(Cond.an a b).size*zx q=a.size*zx q+b.size*zx q+zx q:=by
   change(a.size+b.size+1)*_=_
   rw[w00,w00,w1w]
  rw[this];simp only[wt,zx]
  lia
 cases q with
 | pair r s=>show z9h (mk:= .pair) (b:=true) (λv v=>(rfl,rfl)) e
 | join a b r s=>show z9h (mk:= .join a b) (b:=false) (λv v=>(rfl,rfl)) e
 | _=>cases e<;>show(rfl,by simp only[wt,zx,QC];lia)
theorem z9i(e:kl th q=AA q'):zx q'=zx q/\wt q'<=wt q:=by
 rcases z3c e with⟨c,r,_,f⟩|⟨c,d,r,_⟩|⟨n,m,r⟩|⟨n,l,r⟩|⟨l,m,r⟩|⟨a,r⟩
 .exact ze2 f
 all_goals show(rfl,by simp only[wt,zx];lia)
theorem zeZ{p k:Qn}(a:(kids p)[i]? =AA k)(hl:zx k'=zx k)(h:wt k'<=wt k):zx (zT p i k')=zx p/\wt (zT p i k')<=wt p:=by
 cases p<;>rcases i with _|_|i<;>cases a<;>simp only[zT,zx,wt,hl,w1q,Nat.zero_add,Nat.one_ne_zero,w0A]<;>lia
theorem z7s{k:Qn}:∀{l:List Qn},k∈l->(post k).length<=(l.flatMap post).length
 | a::l,m=>by
  rw[List.flatMap_cons,wg];rcases wF.mp m with rfl|m
  .exact w1f _ _
  .exact wG (z7s m) (Nat.le_add_left _ _)
theorem zbg{p k:Qn}(a:(kids p)[i]? =AA k):(post k).length+1<=(post p).length:=by
 rw[jP p,wg];show Nat.succ_le_succ (z7s (qB a))
theorem z5V:∀{c:List (Qn×Nat)} {q:Qn},z0j th c q->(post q).length+c.length<=(post (plug c q)).length
 | [],_,_=>wy _
 | (p,i)::c,q,h=>by
  have b:=zbg (z6M (k:=q) h.1);have a:=z5V (c:=c) h.2.2
  change _+(c.length+1)<=(post (plug c (zT p i q))).length
  lia
theorem z63:∀{c:List (Qn×Nat)} {p q:Qn} {i:Nat},plug (c++[(p,i)]) q=zT p i (plug c q)
 | [],_,_,_=>rfl
 | (p',j)::c,p,q,i=>z63 (c:=c) (q:=zT p' j q)
noncomputable def rest(p:Qn)(j:Nat):Nat:=((kids p).drop j).foldr (λk n=>3*(post k).length+n) 0
theorem z9J{p k:Qn}(a:(kids p)[i]? =AA k):rest p i=3*(post k).length+rest p (i+1):=by
 unfold rest;obtain⟨hi,e⟩:=we.mp a;rw[w01 hi,e]
 rfl
theorem zab{p:Qn}:rest p (i+1)<=rest p i:=by
 by_cases h:i<(kids p).length
 .rw [z9J (wb h)];lia
 .unfold rest;rw[List.drop_eq_nil_of_le ∅,List.drop_eq_nil_of_le ∅];show wy _
theorem zda{p:Qn}(h:i<=j):rest p j<=rest p i:=by
 induction h with
 | refl=>show wy _
 | step _ a=>show wG zab a
theorem zc8(k:Qn):rest k 0+3=3*(post k).length:=by
 cases k<;>simp only[rest,kids,post,w1E,List.foldr_cons,List.foldr_nil,wg,wZ]<;>lia
theorem zbx{p k:Qn}(h:i<(kids p).length):rest (zT p i k) (i+1)=rest p (i+1):=by
 unfold rest;rw[z21 h,List.drop_set_of_lt (w0C i)]
noncomputable def budget(c:List (Qn×Nat)):Nat:=c.foldr (λx n=>2+rest x.1 (x.2+1)+n) 0
theorem z4L{d1 d2 l1 l2:Nat}:d1*l1+d2*l2<=(max d1 d2+1)*(l1+l2):=by
 have a:d1*l1<=max d1 d2*l1:=QD _ (Nat.le_max_left _ _);have b:d2*l2<=max d1 d2*l2:=QD _ (Nat.le_max_right _ _);rw[w00,w1w,QC]
 lia
set_option tactic.hygienic true in
theorem zfG(h:okQ th q):wt q<=(post q).length+6*(depth q*zx q):=by
 induction q
 case' pick c q i=>have:c.size*zx q<=6*zx q:=QD _ h.2.1;have:=i h.2.2
 case' cols i=>have:=i h.2.2.2
 case' first i=>have:=i h.2
 case' group i=>have:=i h.2.2.2.2.2
 case' sort i=>have:=i h.2
 case' pair q r i j=>have:=i h.2.1;have:=j h.2.2;have:=z4L (d1:=depth q) (d2:=depth r) (l1:=zx q) (l2:=zx r)
 case' join q r i j=>have:=i h.2.2.2.1;have:=j h.2.2.2.2;have:=z4L (d1:=depth q) (d2:=depth r) (l1:=zx q) (l2:=zx r)
 case' both q r i j=>have:=i h.2.1;have:=j h.2.2;have:=z4L (d1:=depth q) (d2:=depth r) (l1:=zx q) (l2:=zx r)
 case' pair|join|both=>simp only[wt,post,depth,zx,wg,wZ]
 all_goals
  try simp only[wt,post,depth,zx,wg,wZ,QS,w00,w1w,QC]
  lia
noncomputable def held(th:Str->List Str)(d:Cond):Qn->Bool
 | .pair q r=>(yz th d (.pair q r)).isNone
 | .join a b q r=>(yz th d (.join a b q r)).isNone
 | _=>false
noncomputable def yo:Qn->Nat
 | .table _=>0
 | .cols _ q=>yo q+1
 | .pick _ q | .sort _ q | .first _ q | .group _ _ _ _ q=>yo q
 | .pair q r | .join _ _ q r | .both q r=>yo q+yo r
noncomputable def nu(th:Str->List Str):Qn->Nat
 | .table _=>0
 | .pick c q=>(if held th c (beneath q)=true then 0 else c.size*wt q)+c.size*c.size*zx q+nu th q
 | .cols _ q | .sort _ q | .group _ _ _ _ q=>nu th q+1
 | .first _ q=>nu th q+1+yo q
 | .pair q r | .join _ _ q r | .both q r=>nu th q+nu th r+1
theorem z5B{mk':Qn->Qn->Qn}(h1:ze th q=ze th q')(h2:ze th r=ze th r'):(yT th c mk b q r).isNone=(yT th c mk' b q' r').isNone:=by
 unfold yT;rw[h1,h2];split
 .rfl
 .split
  .rfl
  .split<;>rfl
theorem z2h{d:Cond}(h1:ze th q=ze th q')(h2:ze th r=ze th r'):held th d (.pair q r)=held th d (.pair q' r'):=by
 cases d<;>first|rfl|show z5B (mk:= .pair) (mk':= .pair) (b:=true) h1 h2
theorem z2c{d:Cond}{a b:Str}(h1:ze th q=ze th q')(h2:ze th r=ze th r'):held th d (.join a b q r)=held th d (.join a b q' r'):=by
 cases d<;>first|rfl|show z5B (mk:= .join a b) (mk':= .join a b) (b:=false) h1 h2
theorem zdP{d:Cond}{a b:Str}(h:held th d (.pair q r)=true):held th d (.join a b q r)=true:=by
 have go:(yT th d .pair true q r).isNone=true->(yT th d (.join a b) false q r).isNone=true:=λh=>by
  unfold yT at h ⊢;split
  .next x=>rw[qc x]at h;cases h
  .next x=>
   rw[wW x]at h;split
   .next y=>rw[qc y]at h;cases h
   .rfl
 cases d<;>first|cases h|show go h
def Hld(th:Str->List Str)(q q':Qn):Prop:=∀d,held th d (beneath q)=true->held th d (beneath q')=true
theorem zcI{p k:Qn}{d:Cond}(h:ze th k=ze th k'):held th d (zT p i k)=held th d (zT p i k'):=by
 cases p with
 | pair q r=>
  by_cases e:i=0
  .simp only [zT,e,w1q];show z2h h rfl
  .simp only [zT,e,w0A];show z2h rfl h
 | join a b q r=>
  by_cases e:i=0
  .simp only [zT,e,w1q];show z2c h rfl
  .simp only [zT,e,w0A];show z2c rfl h
 | both q r=>by_cases e:i=0<;>simp only[zT,e,w1q,w0A]<;>rfl
 | _=>rfl
theorem zc7(t:Trn th q q'):Hld th q q':=by
 intro d h;rcases t with⟨c,r,_,f⟩|⟨c,e,r,_⟩|⟨n,m,r⟩|⟨n,l,r⟩|⟨l,m,r⟩|⟨a,r⟩
 .rcases z2p f with⟨a,b,rfl,rfl⟩|f
  .exact h
  cases r with
  | pair r s=>
   rcases z1Y f with h1|h2|⟨x,y,_,h1,h2,rfl⟩
   .exact(z2h (q:= .pick c r) (r:=s) (q':=r) (r':=s) rfl rfl).trans h
   .exact(z2h (q:=r) (r:= .pick c s) (q':=r) (r':=s) rfl rfl).trans h
   .unfold kX;split<;>show zdP h
  | join a b r s=>
   rcases z1Y (mk:= .join a b) (b:=false) f with h1|h2|⟨_,_,h⟩
   .exact(z2c (q:= .pick c r) (r:=s) (q':=r) (r':=s) rfl rfl).trans h
   .exact(z2c (q:=r) (r:= .pick c s) (q':=r) (r':=s) rfl rfl).trans h
   .cases h
  | sort|cols|both=>cases f;cases h
  | _=>cases f
 .exact h
 all_goals cases h
theorem z76(f:yz th c q=AA q'):held th c q=false:=by
 cases q<;>first|rfl|(change Option.isNone _=false;rw[f];rfl)
theorem z8V(t:Trn th q q'):yo q'<=yo q:=by
 rcases t with⟨c,r,_,f⟩|⟨c,e,r,_⟩|⟨n,m,r⟩|⟨n,l,r⟩|⟨l,m,r⟩|⟨a,r⟩
 .rcases z2p f with⟨a,b,rfl,rfl⟩|f
  .simp only [yo];lia
  cases r with
  | pair r s=>
   rcases z1Y f with h1|h2|⟨x,y,_,h1,h2,rfl⟩
   .simp only [yo];lia
   .simp only [yo];lia
   .unfold kX;split<;>simp only[yo]<;>lia
  | join a b r s=>rcases z1Y (mk:= .join a b) (b:=false) f with h1|h2|⟨_,_,h⟩<;>first|cases h|(simp only[yo];lia)
  | sort|cols|both=>cases f;simp only[yo];lia
  | _=>cases f
 all_goals simp only[yo];lia
theorem yA(c:Cond)(q:Qn):nu th (.pick c q)<=c.size*wt q+c.size*c.size*zx q+nu th q:=by
 simp only[nu];split<;>lia
theorem kg(h:held th c (beneath q)=false):nu th (.pick c q)=c.size*wt q+c.size*c.size*zx q+nu th q:=by
 simp only[nu,h];simp
theorem z9c(hm:∀x y,nu th (mk x y)=nu th x+nu th y+1)(e:yT th c mk b q r=AA q'):nu th q'<c.size*(wt q+wt r+1)+c.size*c.size*(zx q+zx r)+(nu th q+nu th r+1):=by
 have a:=yA (th:=th) c q;have p2:=yA (th:=th) c r;have hs:=c.size_pos;rw[QC,QC,QC,w2h];rcases z1Y e with _|_|⟨x,y⟩
 .rw [hm];lia
 .rw [hm];lia
 .unfold kX;split<;>simp only[nu]<;>lia
theorem zdh(u:∀r∈kids q,kl th r=AB)(e:kl th q=AA q'):nu th q'<nu th q:=by
 rcases z3c e with⟨c,r,_,f⟩|⟨c,d,r,h2⟩|⟨n,m,r⟩|⟨n,l,r⟩|⟨l,m,r⟩|⟨a,r⟩
 .have hs:=c.size_pos;rcases z2p f with⟨a,b,rfl,rfl⟩|g
  .have D:∀q,held th (.an a b) q=false:=λq=>by cases q<;>rfl
   rw[kg (D _)];have p:=yA (th:=th) a (.pick b r);have p2:=yA (th:=th) b r;have A:(Cond.an a b).size=a.size+b.size+1:=rfl;have j:wt (.pick b r)=b.size*zx r+wt r:=rfl;have o:zx (.pick b r)=zx r:=rfl;rw[j,o]at p;rw[A];have l1:=yq r;generalize a.size=x at *;generalize b.size=y at *;generalize zx r=l at *;generalize wt r=w at *;have B:x*(y*l+w)=x*y*l+x*w:=by rw[QC,Nat.mul_assoc]
   have C:(x+y+1)*w=x*w+y*w+w:=by rw[w00,w00,w1w]
   have E:(x+y+1)*(x+y+1)*l=x*x*l+y*y*l+x*y*l+(x*y*l+2*(x*l)+2*(y*l)+l):=by
    simp only[w00,QC,w1w,w2h,Nat.mul_comm y x]
    lia
   rw[B]at p;rw[C,E]
   lia
  .have h:=z76 f;cases r with
   | sort _ r|cols _ r=>
    cases g;rw[kg h];have:=yA (th:=th) c r;simp only[wt,zx,QC,w2h]
    change nu th (.pick c r)+1<_+(nu th r+1)
    lia
   | both r s=>
    cases g;rw[kg h];have:=yA (th:=th) c r;have:=yA (th:=th) c s;simp only[wt,zx,QC,w2h]
    change nu th (.pick c r)+nu th (.pick c s)+1<_+(nu th r+nu th s+1)
    lia
   | pair r s=>rw[kg h];show z9c (mk:= .pair) (b:=true) (λv v=>rfl) g
   | join a b r s=>rw[kg h];show z9c (mk:= .join a b) (b:=false) (λv v=>rfl) g
   | _=>cases g
 .have st:=zc6 (u _ (wm.mpr rfl));have hc:=c.size_pos;have hd:=d.size_pos;have l1:=yq r;have i:held th d (beneath r)=true/\held th c (beneath r)=false:=by
   generalize beneath r=x at st h2;obtain⟨y,t⟩:=QL.mp h2;show(?_,z76 t);have sn:(yz th d x).isNone=true:=by
    cases hz:yz th d x with
    | none=>rfl
    | some z=>rw[hz]at st;cases st
   cases x with
   | pair|join=>show sn
   | sort|cols|both=>cases d<;>cases sn
   | _=>
    rcases z2p t with⟨a,b,rfl,rfl⟩|g
    .cases e
    .cases g
  have j:nu th (.pick d (.pick c r))=d.size*d.size*zx r+(c.size*wt r+c.size*c.size*zx r+nu th r):=by
   rw[<-kg i.2]
   change(if held th d (beneath r)=true then 0 else _)+_+_=_
   rw[qc i.1,Nat.zero_add]
   rfl
  have o:nu th (.pick c (.pick d r))=c.size*(d.size*zx r+wt r)+c.size*c.size*zx r+(d.size*d.size*zx r+nu th r):=by
   rw[kg (q:= .pick d r) i.2]
   congr 1
   change(if held th d (beneath r)=true then 0 else _)+_+_=_
   rw[qc i.1,Nat.zero_add]
  have z:1*(1*1)<=c.size*(d.size*zx r):=Qk hc (Qk hd l1);rw[j,o,QC]
  lia
 all_goals
  simp only[nu,yo]
  lia
structure Dn(th:Str->List Str)(q q':Qn):Prop where
 nu:nu th q'<nu th q
 wt:wt q'<=wt q
 lv:zx q'=zx q
 nc:yo q'<=yo q
 hl:Hld th q q'
 hd:ze th q'=ze th q
theorem zaR{p k:Qn}(a:(kids p)[i]? =AA k)(h:yo k'<=yo k):yo (zT p i k')<=yo p:=by
 cases p<;>rcases i with _|_|i<;>cases a<;>simp only[zT,yo,w1q,Nat.zero_add,Nat.one_ne_zero,w0A]<;>lia
theorem zf1{p k:Qn}(b:(kids p)[i]? =AA k)(h:yo k'<=yo k)(n:nu th k'<nu th k)(a:∀c:Cond,nu th (.pick c k')<nu th (.pick c k)):nu th (zT p i k')<nu th p:=by
 cases p with
 | pick c q=>
  rcases i with _|i<;>cases b
  show a c
 | _=>
  clear a;rcases i with _|_|i<;>cases b<;>simp only[zT,nu,w1q,Nat.zero_add,Nat.one_ne_zero,w0A]<;>lia
theorem zdS{p k:Qn}(f:(kids p)[i]? =AA k)(hd:ze th k'=ze th k)(hl:Hld th k k'):Hld th p (zT p i k'):=by
 intro d h;have:=zcI (p:=p) (i:=i) (d:=d) hd.symm;rw[set_same f]at this;cases p with
 | pick c q=>
  rcases i with _|i<;>cases f
  show hl d h
 | pair q r|both q r=>
  clear f hl;by_cases e:i=0<;>simp only[zT,e,w1q,w0A]at this ⊢<;>show this ▸ h
 | join a b q r=>
  clear f hl;by_cases e:i=0<;>simp only[zT,e,w1q,w0A]at this ⊢<;>show this ▸ h
 | _=>show this ▸ h
theorem Dn.set{p k:Qn}(a:(kids p)[i]? =AA k)(D:Dn th k k'):Dn th p (zT p i k'):=by
 have w:=zeZ a D.lv D.wt;have hd:ze th (zT p i k')=ze th p:=(z3r D.hd).trans (by rw[set_same a]);show(zf1 a D.nc D.nu λc=>?_,w.2,w.1,zaR a D.nc,zdS a D.hd D.hl,hd);have m:c.size*_root_.Internal.wt k'<=c.size*_root_.Internal.wt k:=w0y _ D.wt;have b:=D.nu;simp only[Internal.nu,D.lv];by_cases e:held th c (beneath k)=true
 .rw [qc e,qc (D.hl c e)];lia
 .rw [wW e];split<;>lia
theorem Dn.plug:∀{c:List (Qn×Nat)} {q q':Qn},z0j th c q->Dn th q q'->Dn th (plug c q) (plug c q')
 | [],_,_,_,D=>D
 | (p,i)::c,q,q',h,D=>by
  have E:=D.set (z6M (k:=q) h.1);rw[set_set h.1]at E;show Dn.plug (c:=c) h.2.2 E
def zdl(w:wfQ th q)(a:∀r∈kids q,kl th r=AB)(e:kl th q=AA q'):Dn th q q':=
 (zdh a e,(z9i e).2,(z9i e).1,z8V (z3c e),zc7 (z3c e),(z4S w e).h)
theorem zcB(q:Qn):yo q<=wt q:=by
 induction q<;>simp only[yo,wt]<;>lia
theorem z6l(a b:Nat):a*a+2*(a*b)+b*b=(a+b)*(a+b):=by
 rw[w00,QC,QC,Nat.mul_comm b a]
 lia
theorem zgc(q:Qn):nu th q<=wt q*wt q:=by
 induction q with
 | table n=>show qN _
 | pick c q a=>
  have h1:=yA (th:=th) c q;have l1:=yq q
  change _<=(c.size*zx q+wt q)*(c.size*zx q+wt q)
  rw[<-z6l];have e:c.size*wt q*1<=c.size*wt q*zx q:=w0y _ l1;have d:c.size*zx q*wt q=c.size*wt q*zx q:=Nat.mul_right_comm _ _ _;have f:c.size*c.size*zx q*1<=c.size*c.size*zx q*zx q:=w0y _ l1;have b:c.size*zx q*(c.size*zx q)=c.size*c.size*zx q*zx q:=by
   rw[Nat.mul_assoc,w19 (zx q),<-Nat.mul_assoc,<-Nat.mul_assoc]
  rw[d,b]
  lia
 | first n q a=>
  have:=zcB q;simp only[nu,wt,<-z6l]
  lia
 | cols _ q a|sort _ q a|group _ _ _ _ q a=>
  simp only[nu,wt,<-z6l]
  lia
 | pair q r i j|join _ _ q r i j|both q r i j=>
  simp only[nu,wt,<-z6l]
  lia
def One(th:Str->List Str)(w a:Qn):Prop:=∃c r r',z0j th c r/\w=plug c r/\a=plug c r'/\kl th r=AA r'/\∀k∈kids r,nf th k
theorem One.eqv{w a:Qn}(wf:wfQ th w)(o:One th w a):Eqv th w a:=by
 obtain⟨c,r,r',h,rfl,rfl,e,_⟩:=o;show z7I h wf (z4S (z2i h wf) e)
theorem One.dn{w a:Qn}(wf:wfQ th w)(o:One th w a):Dn th w a:=by
 obtain⟨c,r,r',h,rfl,rfl,e,b⟩:=o;show Dn.plug h (zdl (z2i h wf) (λk m=>b k m k (za2 k)) e)
def z04(H:Hp):Qn->List V->Prop
 | .table n,xs=>xs= [.str "table",.str n]
 | .pick c _,xs=>∃x,xs= [.str "pick",x]/\zI H c x
 | .cols ns _,xs=>∃x,xs= [.str "cols",.ref x]/\H x=AA (.tup (ns.map V.str))
 | .pair _ _,xs=>xs= [.str "pair"]
 | .join a b _ _,xs=>xs= [.str "join",.str a,.str b]
 | .both _ _,xs=>xs= [.str "both"]
 | .first n _,xs=>xs= [.str "first",.int n]
 | .group a b n s _,xs=>xs= [.str "group",.str a,.str b,.str n,.str s]
 | .sort a _,xs=>xs= [.str "sort",.str a]
noncomputable def jG(ah hd wl:AD)(qv:V)(b:Bool):List (Str×V):= [("ahead",.ref ah),("heads",.ref hd),("within",.ref wl),("question",qv),("settled",.bl b)]
structure NodeAt(th:Str->List Str)(C:AD)(H:Hp)(q:Qn)(a:AD)(ws:List V)(ah hd wl dx:AD)(qv:V)(b:Bool)(xs:List V):Prop where
 me:H a=AA (.ins C dx (jG ah hd wl qv b))
 ahd:H ah=AA (.tup xs)
 ahx:z04 H q xs
 hds:H hd=AA (.lst ((ze th q).map V.str))
 wit:H wl=AA (.lst ws)
 qst:QAt H q qv
 set:b=true->nf th q
inductive Node(th:Str->List Str)(C:AD)(H:Hp)(q:Qn)(v:V)(ws:List V):Prop
 | mk:∀a ah hd wl dx qv b xs,v= .ref a->NodeAt th C H q a ws ah hd wl dx qv b xs->Node th C H q v ws
def jU(th:Str->List Str)(C:AD)(H:Hp):Qn->V->Prop
 | .table n,v=>Node th C H (.table n) v []
 | .pick c q,v=>∃w,Node th C H (.pick c q) v [w]/\jU th C H q w
 | .cols ns q,v=>∃w,Node th C H (.cols ns q) v [w]/\jU th C H q w
 | .pair q r,v=>∃w u,Node th C H (.pair q r) v [w,u]/\jU th C H q w/\jU th C H r u
 | .join a b q r,v=>∃w u,Node th C H (.join a b q r) v [w,u]/\jU th C H q w/\jU th C H r u
 | .both q r,v=>∃w u,Node th C H (.both q r) v [w,u]/\jU th C H q w/\jU th C H r u
 | .first n q,v=>∃w,Node th C H (.first n q) v [w]/\jU th C H q w
 | .group a b n s q,v=>∃w,Node th C H (.group a b n s q) v [w]/\jU th C H q w
 | .sort a q,v=>∃w,Node th C H (.sort a q) v [w]/\jU th C H q w
def jV(th:Str->List Str)(C:AD)(H:Hp):List Qn->List V->Prop
 | [],vs=>vs= []
 | q::a,vs=>∃v ws,vs=v::ws/\jU th C H q v/\jV th C H a ws
theorem j6{v:V}:jU th C H q v↔∃ws,Node th C H q v ws/\jV th C H (kids q) ws:=by
 have one:∀{q r:Qn},kids q= [r]->((∃w,Node th C H q v [w]/\jU th C H r w)↔∃ws,Node th C H q v ws/\jV th C H (kids q) ws):=λ{q r} d=>by
  rw[d];constructor
  .rintro⟨w,h1,h2⟩;show([w],h1,w,[],rfl,h2,rfl)
  .rintro⟨ws,h1,w,us,rfl,h2,rfl⟩;show(w,h1,h2)
 have two:∀{q r t:Qn},kids q= [r,t]->((∃w u,Node th C H q v [w,u]/\jU th C H r w/\jU th C H t u)↔∃ws,Node th C H q v ws/\jV th C H (kids q) ws):=λ{q r t} d=>by
  rw[d];constructor
  .rintro⟨w,u,h1,h2,e⟩;show([w,u],h1,w,[u],rfl,h2,u,[],rfl,e,rfl)
  .rintro⟨ws,h1,w,us,rfl,h2,u,vs,rfl,e,rfl⟩;show(w,u,h1,h2,e)
 cases q with
 | table n=>
  constructor
  .intro h;show([],h,rfl)
  .rintro⟨ws,h,rfl⟩;show h
 | pick c q=>show one rfl
 | cols ns q=>show one rfl
 | first n q=>show one rfl
 | group a b n s q=>show one rfl
 | sort a q=>show one rfl
 | pair q r=>show two rfl
 | join a b q r=>show two rfl
 | both q r=>show two rfl
theorem jV.len:∀{a:List Qn} {vs:List V},jV th C H a vs->vs.length=a.length
 | [],_,h=>by rw[show _= []from h];rfl
 | _::a,_,(v,ws,e,_,h)=>by rw[e,wP,wP,h.len]
theorem jV.at:∀{a:List Qn} {vs:List V} {i:Nat} {q:Qn},jV th C H a vs->a[i]? =AA q->∃v,vs[i]? =AA v/\jU th C H q v
 | q::a,_,0,_,(v,us,b,h1,h2),e=>by cases e;show(v,by rw[b];rfl,h1)
 | q::a,_,i+1,_,(v,us,b,h1,h2),e=>by
  obtain⟨u,c,z⟩:=h2.at (i:=i) (by simpa using e);show(u,by rw[b];simpa using c,z)
theorem jV.set:∀{a:List Qn} {vs:List V} {i:Nat} {q:Qn} {v:V},jV th C H a vs->jU th C H q v->jV th C H (a.set i q) (vs.set i v)
 | [],_,_,_,_,h,_=>by rw[show _= []from h];rfl
 | r::a,_,0,_,v,(u,us,b,h1,h2),h=>by subst b;show(v,us,rfl,h,h2)
 | r::a,_,i+1,_,v,(u,us,b,h1,h2),h=>by subst b;show(u,us.set i v,rfl,h1,h2.set h)
structure Ev(th:Str->List Str)(C:AD)(H H':Hp):Prop where
 t:∀b o,H b=AA o->(∀ps,o≠ .tbl ps)->(∀D dx fs,o≠ .ins D dx fs)->H' b=AA o
 n:∀a dx ah hd wl qv b,H a=AA (.ins C dx (jG ah hd wl qv b))->∃b',H' a=AA (.ins C dx (jG ah hd wl qv b'))/\(b'=b\/(b'=true/\∀q ws xs,NodeAt th C H q a ws ah hd wl dx qv b xs->nf th q))
theorem Ev.tup{b:AD}{xs:List V}(e:Ev th C H H')(h:H b=AA (.tup xs)):H' b=AA (.tup xs):=e.t b _ h (λv z=>by cases z) λv v v z=>by cases z
theorem Ev.lst{b:AD}{xs:List V}(e:Ev th C H H')(h:H b=AA (.lst xs)):H' b=AA (.lst xs):=e.t b _ h (λv z=>by cases z) λv v v z=>by cases z
theorem Ev.of(h:Nt H H'):Ev th C H H':=(λb o e n v=>h b o e n,λa dx ah hd wl qv b e=>(b,h a _ e (λv z=>by cases z),.inl rfl))
theorem z04.mono(t:∀b xs,H b=AA (.tup xs)->H' b=AA (.tup xs))(h:z04 H q xs):z04 H' q xs:=by
 cases q with
 | pick c q=>obtain⟨x,e,h⟩:=h;show(x,e,h.mono t)
 | cols ns q=>obtain⟨x,e,h⟩:=h;show(x,e,t _ _ h)
 | _=>show h
theorem Node.ev{v:V}(e:Ev th C H H')(h:Node th C H q v ws):Node th C H' q v ws:=by
 obtain⟨a,ah,hd,wl,dx,qv,b,xs,rfl,h⟩:=h;obtain⟨d,h1,h2⟩:=e.n a dx ah hd wl qv b h.me;have c:∀b xs,H b=AA (.tup xs)->H' b=AA (.tup xs):=λb xs z=>e.tup z
 show(a,ah,hd,wl,dx,qv,d,xs,rfl,h1,e.tup h.ahd,h.ahx.mono c,e.lst h.hds,e.lst h.wit,h.qst.mono c,λz=>?_);rcases h2 with rfl|⟨_,h2⟩
 .exact h.set z
 .exact h2 q ws xs h
theorem jU.ev(e:Ev th C H H'):∀{q:Qn} {v:V},jU th C H q v->jU th C H' q v
 | .table n,_,h=>Node.ev e h
 | .pick c q,_,(w,h1,h2)=>(w,h1.ev e,h2.ev e)
 | .cols ns q,_,(w,h1,h2)=>(w,h1.ev e,h2.ev e)
 | .pair q r,_,(w,u,h1,h2,d)=>(w,u,h1.ev e,h2.ev e,d.ev e)
 | .join a b q r,_,(w,u,h1,h2,d)=>(w,u,h1.ev e,h2.ev e,d.ev e)
 | .both q r,_,(w,u,h1,h2,d)=>(w,u,h1.ev e,h2.ev e,d.ev e)
 | .first n q,_,(w,h1,h2)=>(w,h1.ev e,h2.ev e)
 | .group a b n s q,_,(w,h1,h2)=>(w,h1.ev e,h2.ev e)
 | .sort a q,_,(w,h1,h2)=>(w,h1.ev e,h2.ev e)
theorem jV.ev(e:Ev th C H H'):∀{a:List Qn} {vs:List V},jV th C H a vs->jV th C H' a vs
 | [],_,h=>h
 | _::_,_,(v,ws,b,h1,h2)=>(v,ws,b,h1.ev e,h2.ev e)
theorem zfb{kv:List V}(h:z04 H q xs)(i:yu H (kids q) kv)(d:H p=AA (.tup (xs++kv))):QAt H q (.ref p):=by
 have one:∀{r:Qn},yu H [r] kv->∃y,kv= [y]/\QAt H r y:=λ⟨v,ws,e,h,z⟩=>(v,by rw[e,show ws= []from z],h)
 have two:∀{r t:Qn},yu H [r,t] kv->∃x y,kv= [x,y]/\QAt H r x/\QAt H t y:=λ⟨v,ws,e,h,u,us,l,h2,z⟩=>(v,u,by rw[e,l,show us= []from z],h,h2)
 cases q with
 | table n=>
  rw[show kv= []from i,show xs=_ from h]at d;show(p,rfl,d)
 | pick c q=>
  obtain⟨y,rfl,f⟩:=(one i);obtain⟨x,rfl,j⟩:=(h);show(p,x,y,rfl,d,j,f)
 | cols ns q=>
  obtain⟨y,rfl,f⟩:=(one i);obtain⟨x,rfl,j⟩:=(h);show(p,x,y,rfl,d,j,f)
 | first n q=>
  obtain⟨y,rfl,f⟩:=(one i);rw[show xs=_ from h]at d;show(p,y,rfl,d,f)
 | group a b n s q=>
  obtain⟨y,rfl,f⟩:=(one i);rw[show xs=_ from h]at d;show(p,y,rfl,d,f)
 | sort a q=>
  obtain⟨y,rfl,f⟩:=(one i);rw[show xs=_ from h]at d;show(p,y,rfl,d,f)
 | pair q r=>
  obtain⟨x,y,rfl,j,f⟩:=(two i);rw[show xs=_ from h]at d;show(p,x,y,rfl,d,j,f)
 | join a b q r=>
  obtain⟨x,y,rfl,j,f⟩:=(two i);rw[show xs=_ from h]at d;show(p,x,y,rfl,d,j,f)
 | both q r=>
  obtain⟨x,y,rfl,j,f⟩:=(two i);rw[show xs=_ from h]at d;show(p,x,y,rfl,d,j,f)
structure PC(K:W.Frag)(C:AD):Prop where
 cls:Cls K C
 ah:NoAttr K C "ahead"
 hd:NoAttr K C "heads"
 wi:NoAttr K C "within"
 qu:NoAttr K C "question"
 se:NoAttr K C "settled"
theorem zgh{v:V}:ke "ahead" v []=([("ahead",v)]:List (Str×V)):=rfl
theorem put2{v x:V}:ke "heads" v ([("ahead",x)]:List (Str×V))=([("ahead",x),("heads",v)]:List (Str×V)):=by simp[ke,show("ahead":Str)≠"heads" by decide]
theorem put3{v x:V}:ke "within" v ([("ahead",x),("heads",y)]:List (Str×V))=([("ahead",x),("heads",y),("within",v)]:List (Str×V)):=by simp[ke,show("ahead":Str)≠"within" by decide,show("heads":Str)≠"within" by decide]
theorem zfL{v x z:V}:ke "question" v ([("ahead",x),("heads",y),("within",z)]:List (Str×V))=([("ahead",x),("heads",y),("within",z),("question",v)]:List (Str×V)):=by
 simp[ke,show("ahead":Str)≠"question" by decide,show("heads":Str)≠"question" by decide,show("within":Str)≠"question" by decide]
theorem zgM{v x z:V}:ke "settled" v ([("ahead",x),("heads",y),("within",z),("question",u)]:List (Str×V))=([("ahead",x),("heads",y),("within",z),("question",u),("settled",v)]:List (Str×V)):=by
 simp[ke,show("ahead":Str)≠"settled" by decide,show("heads":Str)≠"settled" by decide,show("within":Str)≠"settled" by decide,show("question":Str)≠"settled" by decide]
theorem zgZ{hd:AD}:ke "settled" (.bl true) (jG ah hd wl qv b)=jG ah hd wl qv true:=by
 simp[ke,jG,show("ahead":Str)≠"settled" by decide,show("heads":Str)≠"settled" by decide,show("within":Str)≠"settled" by decide,show("question":Str)≠"settled" by decide]
def zdN{hd:AD}:(jG ah hd wl qv b).lookup ("ahead":Str)=AA (V.ref ah):=rfl
theorem zdL{hd:AD}:(jG ah hd wl qv b).lookup ("heads":Str)=AA (V.ref hd):=by rfl
theorem zdX{hd:AD}:(jG ah hd wl qv b).lookup ("within":Str)=AA (V.ref wl):=by rfl
theorem z9f{hd:AD}:(jG ah hd wl qv b).lookup ("question":Str)=AA qv:=by rfl
theorem zdH{hd:AD}:(jG ah hd wl qv b).lookup ("settled":Str)=AA (V.bl b):=by rfl
def yR{a hd:AD}(d:PC K C)(h:H a=AA (.ins C dx (jG ah hd wl qv b)))(q:Q (.ref ah)):∃a' c e fs v,V.ref a= .ref a'/\H a'=AA (.ins c e fs)/\Cls K c/\NoAttr K c "ahead"/\fs.lookup ("ahead":Str)=AA v/\Q v:=(a,C,dx,_,_,rfl,h,d.cls,d.ah,zdN,q)
def z15{a hd:AD}(d:PC K C)(h:H a=AA (.ins C dx (jG ah hd wl qv b)))(q:Q (.ref hd)):∃a' c e fs v,V.ref a= .ref a'/\H a'=AA (.ins c e fs)/\Cls K c/\NoAttr K c "heads"/\fs.lookup ("heads":Str)=AA v/\Q v:=(a,C,dx,_,_,rfl,h,d.cls,d.hd,zdL,q)
def ky{a hd:AD}(d:PC K C)(h:H a=AA (.ins C dx (jG ah hd wl qv b)))(q:Q (.ref wl)):∃a' c e fs v,V.ref a= .ref a'/\H a'=AA (.ins c e fs)/\Cls K c/\NoAttr K c "within"/\fs.lookup ("within":Str)=AA v/\Q v:=(a,C,dx,_,_,rfl,h,d.cls,d.wi,zdX,q)
def zed{a hd:AD}(d:PC K C)(h:H a=AA (.ins C dx (jG ah hd wl qv b)))(q:Q (qv)):∃a' c e fs v,V.ref a= .ref a'/\H a'=AA (.ins c e fs)/\Cls K c/\NoAttr K c "question"/\fs.lookup ("question":Str)=AA v/\Q v:=(a,C,dx,_,_,rfl,h,d.cls,d.qu,z9f,q)
def zbN{a hd:AD}(d:PC K C)(h:H a=AA (.ins C dx (jG ah hd wl qv b)))(q:Q (.bl b)):∃a' c e fs v,V.ref a= .ref a'/\H a'=AA (.ins c e fs)/\Cls K c/\NoAttr K c "settled"/\fs.lookup ("settled":Str)=AA v/\Q v:=(a,C,dx,_,_,rfl,h,d.cls,d.se,zdH,q)
inductive spPInit(K:W.Frag)(C:AD)(vs:List V)(H:Hp)(Q:VK)(E:XK):Prop
 | mk:∀th q x dx ah hd wl xs ws,vs= [.ref x,.ref ah,.ref hd,.ref wl]->H x=AA (.ins C dx [])->H ah=AA (.tup xs)->z04 H q xs->H wl=AA (.lst ws)->jV th C H (kids q) ws->(∀(qv:V)(H':Hp),(∀b o,b≠x->H b=AA o->H' b=AA o)->H' x=AA (.ins C dx (jG ah hd wl qv false))->QAt H' q qv->Q .non H')->spPInit K C vs H Q E
theorem z4o(h:z04 H q xs):xs≠ []/\xs.length<=5:=by
 cases q with
 | pick c q=>obtain⟨x,e,h⟩:=h;rw[e];simp
 | cols ns q=>obtain⟨x,e,h⟩:=h;rw[e];simp
 | _=>rw[show xs=_ from h];simp
theorem z5l:FnScope ["self","ahead","heads","within"] ["self","ahead","heads","within"] (zj z0A):=by done
theorem z5t(F:Fun K "__init__" "Place.__init__" z0A f fd)(T:Txt K mg)(c:PC K C):-FnOk CX0 1 f fd ["self","ahead","heads","within"] (spPInit K C):=by
 clear z5l F;obtain⟨th,q,x,dx,ah,hd,wl,xs,ws,rfl,hx,ha,L,hw,bJ,fin⟩:=(h);intro ag A A3 sh hr;show(_,(zc (z0Q v0 v1 rfl)
  (zc (z0Q v0 v2 rfl)
  (zc (z0Q v0 v3 rfl)
  (zc (z0Q v0 (zq z9m v1 (jq z1c rfl T.tuple w0e (z0z (jH rfl (CompSc.of (sx:=zj z0A) (NX:= ["self","ahead","heads","within"]) (fr:= []) (ix:= []) rfl rfl ()) (zW v3) (λm m m m m m=>jm) (λm m m m m m=>(z4c (K:=K) rfl v0 rfl))) zb))) rfl)
  (zf (z0Q v0 yn rfl)))))),?_)
 generalize hK0:K=K1;generalize hK1:C=C1
 revert C1
 revert K1
 show z0M #[] ?_;show !(!(x,C,dx,!(hx,c.cls,c.ah,by change 0<1000;decide,?_)));show !(!(x,C,dx,!(zm,c.cls,c.hd,by change 1<1000;decide,?_)));show !(!(x,C,dx,!(zm,c.cls,c.wi,by rw[zgh,put2];change 2<1000;decide,?_)));rw[zgh,put2,put3];generalize hH3:upd (upd (upd H x _) x _) x _=H3;have B:∀b o,b≠x->H b=AA o->H3 b=AA o:=λb o d e=>by
  rw[<-hH3,zn d,zn d,zn d];show e
 have x3:H3 x=AA (.ins C dx [("ahead",.ref ah),("heads",.ref hd),("within",.ref wl)]):=by rw[<-hH3,zm]
 have t:Ev th C H H3:=(λb o e m n=>B b o (λz=>by rw[z,hx]at e;cases e;show n _ _ _ rfl) e,λa l dg bf bR qv b e=>(b,B a _ (λz=>by rw[z,hx]at e;cases e) e,.inl rfl));have hV:=t.lst hw;have uX:=t.tup ha;have dL:=bJ.ev t;have hl:=bJ.len;have lk:=z2q q;have close:∀(qv:V)(r:Hp),zw H3 r->QAt r q qv->zeB K (λσ H Q=>Q (.ref x) H) (λσ H Q=>Q qv H) "question" {nx:=λσ H=>zeB K (λσ H Q=>Q (.ref x) H) (λσ H Q=>Q (.bl false) H) "settled" {nx:=λm H'=>Q .non H',rt:=Q} σ H,rt:=Q} [] r:=λqv r s6 h6=>by
  have u:=s6 _ _ x3;show(x,C,dx,!(u,c.cls,c.qu,by change 3<1000;decide,?_));show(x,C,dx,!(zm,c.cls,c.se,by rw[zfL];change 4<1000;decide,?_));show fin qv _ (λb o d e=>by rw[zn d,zn d];show s6 _ _ (B b o d e)) (by rw[zm,zfL,zgM];rfl) (h6.mono λb ys z=>?_);have d:b≠x:=λe=>by rw[e,u]at z;cases z
  rw[zn d,zn d];show z
 show !(!(wl,rfl,(_,SqL.of hV),?_));show je (xs:=ws) (λi ys H'=>H'=H3/\ys.length=i/\yu H3 ((kids q).take i) ys) (rfl,rfl,by rw[w0O];rfl) ?_ ?_ ?_
 .rintro i ys H' hi ⟨rfl,hy,_⟩;show(SqL.of hV,zH ∅)
 .rintro i y ys H' hi ⟨rfl,hy,s⟩;have cB:i<(kids q).length:=by rw[<-hl];show(we.mp hi).1
  obtain⟨v,hv,pv⟩:=(dL.at (wb cB));rw[hi]at hv;cases hv;obtain⟨us,⟨a,dg,bf,bR,l,qv,b,dB,rfl,nd⟩,_⟩:=(j6.mp pv);show !(a,C,l,_,qv,rfl,nd.me,c.cls,c.qu,z9f,rfl,by rw[wg,hy];rfl,?_);rw[qA,wb cB];show s.app (qv,[],rfl,nd.qst,rfl)
 .rintro ys H' ⟨rfl,hy,s⟩ np ax;rw[hl,qP]at s;clear np ax H4 n4 x4 np;show(np,ys,rfl,.inl (SqL.of x4,λtp aS=>?_));clear tp aS H5 n5 x5 tp;have j:=n4.trans n5;have mK:z04 H5 q xs:=(L.mono λb xs z=>t.tup z).mono λb xs z=>j _ _ z
  show(ah,tp,xs,ys,rfl,rfl,SqT.of (j _ _ uX),SqT.of x5,?_,?_,λe=>?_,λne p hp=>?_)
  .exact(z4o L).1
  .have:=(z4o L).2;show zR ∅
  .subst e;have AO:QAt H5 q (.ref ah):=zfb mK (s.same j) (by rw[w03];show j _ _ uX);obtain⟨M,U,l,iU,G,Y,hX,J,Z,S,N,ci,O,f1,f2,X,I,R,D⟩:=(close _ _ j AO);show !(M,U,l,iU,G,Y,hX,J,Z,!(S,N,ci,O,f1,f2,X,I,R,D))
  .clear p hp r n6 u p;have AQ:QAt r q (.ref p):=zfb (mK.mono λb xs z=>n6 _ _ z) (s.same (j.trans n6)) u;obtain⟨M,U,l,iU,G,Y,hX,J,Z,S,N,ci,O,f1,f2,X,I,R,D⟩:=(close _ _ (j.trans n6) AQ);show !(M,U,l,iU,G,Y,hX,J,Z,!(S,N,ci,O,f1,f2,X,I,R,D))
theorem jL{Q:VK}{hd:AD}(ha:H ah=AA (.tup xs))(i:z04 H q xs)(r:H hd=AA (.lst ((ze th q).map V.str)))(h:H wl=AA (.lst ws))(f:jV th C H (kids q) ws)
  (fin:∀(x dx:AD)(qv:V)(H':Hp),zw H H'->H x=AB->NodeAt th C H' q x ws ah hd wl dx qv false xs->jU th C H' q (.ref x)->Q (.ref x) H'):
  ∀x dx,H x=AB->H dx=AB->dx≠x->spPInit K C (.ref x::([.ref ah,.ref hd,.ref wl]++[])) (upd (upd H dx (.own x)) x (.ins C dx [])) (λv H2=>v= .non/\Q (.ref x) H2) E:=by
 intro x dx d j s;have c:zw H (upd (upd H dx (.own x)) x (.ins C dx [])):=λb o e=>by
  have b1:b≠x:=λz=>by rw[z,d]at e;cases e
  have b2:b≠dx:=λz=>by rw[z,j]at e;cases e
  rw[zn b1,zn b2];show e
 show(th,q,x,dx,ah,hd,wl,xs,ws,rfl,zm,c _ _ ha,i.mono λb xs z=>c _ _ z,c _ _ h,f.ev (Ev.of (Nt.of c)),λqv H' p n l=>(rfl,?_));have a:zw H H':=λb o e=>p b o (λz=>by rw[z,d]at e;cases e) (c b o e)
 have nd:NodeAt th C H' q x ws ah hd wl dx qv false xs:=(n,a _ _ ha,i.mono λb xs z=>a _ _ z,a _ _ r,a _ _ h,l,λz=>by cases z);show fin x dx qv H' a d nd (j6.mpr (ws,(x,ah,hd,wl,dx,qv,false,xs,rfl,nd),f.ev (Ev.of (Nt.of a))))
noncomputable def yc:Qn->Str
 | .table _=>"table"
 | .pick _ _=>"pick"
 | .cols _ _=>"cols"
 | .pair _ _=>"pair"
 | .join _ _ _ _=>"join"
 | .both _ _=>"both"
 | .first _ _=>"first"
 | .group _ _ _ _ _=>"group"
 | .sort _ _=>"sort"
theorem z0w(h:z04 H q xs):∃r,xs= .str (yc q)::r:=by
 cases q with
 | pick c q=>obtain⟨x,e,h⟩:=h;show(_,e)
 | cols ns q=>obtain⟨x,e,h⟩:=h;show(_,e)
 | _=>show(_,h)
inductive spIsPick(C:AD)(vs:List V)(H:Hp)(Q:VK)(E:XK):Prop
 | mk:∀th q v,vs= [v]->jU th C H q v->Q (.bl (decide (yc q="pick"))) H->spIsPick C vs H Q E
theorem z8L:FnScope ["place"] ["place"] (zj z3v):=by done
theorem z8R(F:Fun K "is_pick" "is_pick" z3v f fd)(T:Txt K mg)(d:PC K C):-FnOk CX0 1 f fd ["place"] (spIsPick C):=by
 clear z8L F;obtain⟨th,q,v,rfl,c,fin⟩:=h;obtain⟨ws,⟨a,ah,hd,wl,dx,qv,b,xs,rfl,nd⟩,_⟩:=j6.mp c;obtain⟨r,rfl⟩:=z0w nd.ahx;intro ag A A3 e i;show(_,(zf (zt (cmE zO (ixT (zF v0 rfl) zd) zg))),?_);generalize hK0:K=K1;generalize hK1:C=C1
 revert C1
 revert K1
 show z0M #[] ?_;show !(yR d nd.me (zi nd.ahd zL (rfl,?_)));rw[j7];show fin
inductive spPickedP(C:AD)(vs:List V)(H:Hp)(Q:VK)(E:XK):Prop
 | mk:∀th c q cv v,vs= [cv,v]->zI H c cv->jU th C H q v->(∀(x:AD)(H':Hp),zw H H'->jU th C H' (.pick c q) (.ref x)->Q (.ref x) H')->spPickedP C vs H Q E
theorem zaM:FnScope ["condition","place"] ["condition","place"] (zj z4q):=by done
theorem za7(F:Fun K "picked" "picked" z4q f fd)(T:Txt K mg)(l:PC K C)(d:-KnC 1 "Place" ["self","ahead","heads","within"] (spPInit K C) C):-FnOk CX0 3 f fd ["condition","place"] (spPickedP C):=by
 clear zaM F;obtain⟨th,c,q,cv,v,rfl,hc,i,fin⟩:=h;obtain⟨ws,⟨a,ah,hd,wl,dx,qv,b,xs,rfl,nd⟩,p⟩:=j6.mp i;intro ag A A3 n j;show(_,(zf (zt (yE d j.m rfl (zA (zu (zh zg (za v0 zb))) (zP (zF v1 rfl) (jO (zD (za v1 zb)) zb)))))),?_);generalize hK0:K=K1;generalize hK1:C=C1
 revert C1
 revert K1
 show z0M #[] ?_;show !?_;clear tp aS H1 n1 x1;have o:=Ev.of (th:=th) (C:=C) (Nt.of n1);show !(z15 l (n1 _ _ nd.me) ?_);show !?_;clear lp bA H2 n2 x2;have e:=n1.trans n2;show jL (q:= .pick c q) (xs:= [.str "pick",cv]) (n2 _ _ x1) (cv,rfl,hc.mono λb xs z=>e _ _ z) (e _ _ nd.hds) x2 (_,[],rfl,i.ev (Ev.of (Nt.of e)),rfl) λx s r H' s' u u pl=>fin x H' (e.trans s') pl
structure TxtM(K:W.Frag)(mg:Str->Option AC):Prop where
 all:mg "all"=AB
 enumerate:mg "enumerate"=AB
inductive spAmong(K:W.Frag)(vs:List V)(H:Hp)(Q:VK)(E:XK):Prop
 | mk:∀np hp (ns:List Str) (hs:List Str),vs= [.ref np,.ref hp]->H np=AA (.lst (ns.map V.str))->H hp=AA (.lst (hs.map V.str))->ns.length<=1000->(∀H',zw H H'->Q (.bl (yS ns hs)) H')->spAmong K vs H Q E
theorem z9S:∀{hs:List Str},inV (.str s) (hs.map V.str)=decide (s∈hs):=by
 intro hs;by_cases h:s∈hs
 .rw [z6u h,qd h]
 .rw [wL h];show Qg.mpr λz=>h ?_
  obtain⟨y,a,e⟩:=w1e.mp z;obtain⟨n,hn,rfl⟩:=Q0.mp a;have:n=s:=by simpa [eqV]using e
  show this ▸ hn
theorem zbF:FnScope ["names","heads"] ["names","heads"] (zj z4b):=by done
theorem zc9(F:Fun K "among" "among" z4b f fd)(T:Txt K mg)(M:TxtM K mg):-FnOk CX0 1 f fd ["names","heads"] (spAmong K):=by
 clear zbF F;obtain⟨np,a,ns,hs,rfl,h1,h2,hl,fin⟩:=h;intro ag A A3 c d;show(_,(zf (zt (zM (zc4 rfl) rfl M.all zao (z0z (jH rfl (CompSc.of (sx:=zj z4b) (NX:= ["names","heads"]) (fr:= ["heads"]) (ix:= [1]) rfl rfl ()) (zW v0) (λv v v v v v=>jm) (λv v v v v v=>(z4a (z8C (K:=K) rfl) v0 v1 (by with_unfolding_all rfl)))) zb)))),?_);generalize hK0:K=K1
 revert K1
 show jF #[] ?_;show !(np,rfl,(_,SqL.of h1),?_);show je (xs:=ns.map V.str) (λi ys H'=>H'=H/\ys=(ns.take i).map λn=>V.bl (decide (n∈hs))) (rfl,rfl) ?_ ?_ ?_
 .rintro i ys H' hi ⟨rfl,rfl⟩;show(SqL.of h1,zH (by rw[wa,qi];lia))
 .rintro i y ys H' hi ⟨rfl,rfl⟩;rw[wK]at hi;cases hn:ns[i]? with
  | none=>rw[hn]at hi;cases hi
  | some n=>
   rw[hn]at hi;cases hi;show !(!(a,!(.inl (SqL.of h2),rfl,zY hs,rfl,?_)));rw[qA,hn,wT]
   change _++[V.bl (inV _ _)]=_
   rw[z9S]
   rfl
 .rintro ys H' ⟨rfl,rfl⟩ lp b;clear lp b H1 n1 x1 lp;rw[wa,qP]at x1;show(lp,ns.map λn=>decide (n∈hs),rfl,SqL.of (by rw[List.map_map];show x1),?_);have e:(ns.map λn=>decide (n∈hs)).all id=yS ns hs:=by rw[List.all_map];rfl
  rw[e];show fin H1 n1
inductive spJoinedBy(C:AD)(vs:List V)(H:Hp)(Q:VK)(E:XK):Prop
 | mk:∀th x y q r cv v,vs= [cv,v]->zI H (.same (.nm x) (.nm y)) cv->jU th C H (.pair q r) v->(∀(z:AD)(H':Hp),zw H H'->jU th C H' (kX th x y q r) (.ref z)->Q (.ref z) H')->spJoinedBy C vs H Q E
theorem kN:FnScope ["condition","pair","one","other"] ["condition","pair"] (zj z1X):=by done
theorem z6i(F:Fun K "joined_by" "joined_by" z1X f fd)(T:Txt K mg)(d:PC K C)(c:-KnC 1 "Place" ["self","ahead","heads","within"] (spPInit K C) C):-FnOk CX0 3 f fd ["condition","pair"] (spJoinedBy C):=by
 clear kN F;obtain⟨th,x,y,q,r,cv,v,rfl,⟨s,rfl,hc⟩,p,fin⟩:=(h);obtain⟨w1,w2,⟨a,ah,hd,wl,dx,qv,b,xs,rfl,nd⟩,i,p2⟩:=(id p);obtain⟨us,⟨a1,D,o,L,B,G,b1,J,rfl,j⟩,_⟩:=(j6.mp i);intro ag A A3 u l;show(_,(zc (seT 2 kN (ixT v0 zd))
  (zc (seT 3 kN (ixT v0 zd))
  (zc (kP (z0b kG v2 (zF (ixL (zF v1 rfl) zd) rfl) (by with_unfolding_all rfl))
   (zc (seT 2 kN (ixT v0 zd))
   (zf (seT 3 kN (ixT v0 zd))))
   zv)
  (zf (zt (yE c l.m rfl (zA (zu (zh zg (za v2 (za v3 zb)))) (zP (zF v1 rfl) (zP (zF v1 rfl) zb))))))))),?_)
 generalize hK0:K=K1;generalize hK1:C=C1
 revert C1
 revert K1
 show z0M #[] ?_;show !(zi hc jc ?_);show !(zi hc jD ?_);show(λσ H'=>∃m n,σ= [AA (.ref s),AA (.ref a),AA (.str m),AA (.str n)]/\H'=H/\kX th x y q r= .join m n q r,?_,?_)
 .refine !(!(ky d nd.me (zy nd.wit zL (z15 d j.me (o,!(.inl (SqL.of j.hds),rfl,zY _,!?_))))));rw[show inV (Side.nm x).v ((ze th q).map V.str)=decide (x∈ze th q)from z9S];by_cases hx:x∈ze th q
  .refine ifF (by change(not (decide _))=false;rw[qd hx];rfl) ?_;show(x,y,rfl,rfl,by unfold kX;rw[qc hx])
  .refine ifT (by change(not (decide _))=true;rw[wL hx];rfl) ?_;show !(zi hc jD ?_);show !(zi hc jc ?_);show(y,x,rfl,rfl,by unfold kX;rw[wW hx])
 intro σ H' zz;obtain⟨m,n,rfl,rfl,t⟩:=(zz);show !(!?_);clear tp aS H1 n1 x1;show !(z15 d (n1 _ _ nd.me) ?_);show !(ky d (n1 _ _ nd.me) ?_);have e:=Ev.of (th:=th) (C:=C) (Nt.of n1);show jL (q:= .join m n q r) (xs:= [.str "join",.str m,.str n]) x1 rfl (n1 _ _ nd.hds) (n1 _ _ nd.wit) (_,!(i.ev e,_,[],rfl,p2.ev e,rfl)) λx I z H' s' k k pl=>fin x H' (n1.trans s') (by rw[t];show pl)
structure Two(th:Str->List Str)(mk:Qn->Qn->Qn)(ip:Bool):Prop where
 k:∀r s,kids (mk r s)= [r,s]
 h:∀r s,ze th (mk r s)=ze th r++ze th s
 a:∀(H:Hp)(r s r' s':Qn)(xs:List V),z04 H (mk r s) xs->z04 H (mk r' s') xs
 p:ip=true->mk=Qn.pair
 w:∀r s,decide (yc (mk r s)="pair")=ip
theorem zd1:Two th Qn.pair true:=(λv v=>rfl,λv v=>rfl,λv v v v v v h=>h,λv=>rfl,λv v=>by change decide (("pair":Str)="pair")=true;decide)
theorem zbQ{a b:Str}:Two th (Qn.join a b) false:=(λv v=>rfl,λv v=>rfl,λv v v v v v h=>h,λz=>(by cases z),λv v=>by change decide (("join":Str)="pair")=false;decide)
theorem z77(h:∀s,s∈ss↔s∈ns):yS ss hs=yS ns hs:=by
 rw[w0t,yv,yv];show(λz n m=>z n ((h n).mpr m),λz n m=>z n ((h n).mp m))
theorem z8J{a b:Side}{c d:List Str}(ok:(Cond.same a b).ok (c++d))(e:¬yS (Cond.same a b).cols c=true)(f:¬yS (Cond.same a b).cols d=true):∃x y,a= .nm x/\b= .nm y:=by
 have one:∀(x:Str),x∈c++d->(∀n∈(Cond.same a b).cols,n=x)->False:=λx l h=>by
  rcases wA.mp l with z|z
  .exact e (yv.mpr λn m=>by rw[h n m];show z)
  .exact f (yv.mpr λn m=>by rw[h n m];show z)
 cases a with
 | nm x=>cases b with
  | nm y=>show(x,y,rfl,rfl)
  | nu j=>show(one x ok.1 λn m=>by simpa [Cond.cols,Side.cols]using m).elim
 | nu i=>cases b with
  | nm y=>show(one y ok.2 λn m=>by simpa [Cond.cols,Side.cols]using m).elim
  | nu j=>show(e (yv.mpr λn m=>by simp[Cond.cols,Side.cols]at m)).elim
def zbU(th:Str->List Str)(C:AD)(H:Hp)(o:Option Qn)(Q:VK):Prop:=(∀q',o=AA q'->∀(z:AD)(H':Hp),zw H H'->jU th C H' q' (.ref z)->Q (.ref z) H')/\(o=AB->∀H',zw H H'->Q .non H')
inductive spSentPart(C:AD)(vs:List V)(H:Hp)(Q:VK)(E:XK):Prop
 | mk:∀th c (mk:Qn->Qn->Qn) ip r s cv v,vs= [cv,v]->Two th mk ip->zI H c cv->c.size<=20->c.ok (ze th r++ze th s)->jU th C H (mk r s) v->zbU th C H (yT th c mk ip r s) Q->spSentPart C vs H Q E
theorem z0H{v:V}(h:zI H c v):∃f ys,v= .ref f/\H f=AA (.tup (.str (wordOf c)::ys)):=by
 cases c with
 | less a b=>obtain⟨p,rfl,e⟩:=h;show(p,!e)
 | same a b=>obtain⟨p,rfl,e⟩:=h;show(p,!e)
 | no c=>obtain⟨p,x,rfl,e,_⟩:=h;show(p,!e)
 | an c d=>obtain⟨p,x,y,rfl,e,_⟩:=h;show(p,!e)
 | or c d=>obtain⟨p,x,y,rfl,e,_⟩:=h;show(p,!e)
theorem yy:FnScope ["condition","place","names","first","second"] ["condition","place"] (zj kW):=by done
theorem z32(F:Fun K "sent_to_a_part" "sent_to_a_part" kW f fd)(T:Txt K mg)(B:PC K C)(t:-KnC 1 "Place" ["self","ahead","heads","within"] (spPInit K C) C)(d:-Kn 1 "columns_of" ["condition"] (spCols K))(o:-Kn 1 "among" ["names","heads"] (spAmong K))(e:-Kn 3 "picked" ["condition","place"] (spPickedP C))(i:-Kn 3 "joined_by" ["condition","pair"] (spJoinedBy C)):-FnOk CX0 4 f fd ["condition","place"] (spSentPart C):=by
 clear yy F;obtain⟨th,c,mk,ip,r,s,cv,v,rfl,u,hc,hz,ok,hp,J,G⟩:=(h);obtain⟨ws,⟨a,ah,hd,wl,dx,qv,b,xs,rfl,nd⟩,hk⟩:=(j6.mp hp);rw[u.k]at hk;obtain⟨w1,us,rfl,X,w2,eQ,rfl,p2,rfl⟩:=(hk);obtain⟨dh,⟨a1,AR,df,rb,AS,iH,b1,ur,rfl,mL⟩,_⟩:=(j6.mp X);obtain⟨eQ,⟨a2,cC,bo,cM,ci,bT,b2,cV,rfl,Y⟩,_⟩:=(j6.mp p2);intro ag A A3 sh I;show(_,(zc (seT 2 yy (jd d I.m (za v0 zb)))
  (zc (seT 3 yy (ixL (zF v1 rfl) zd))
  (zc (seT 4 yy (ixL (zF v1 rfl) zd))
  (zc (zG (jj (jd o I.m (za v2 (zP (zF v3 rfl) zb))))
   (zf (zt (yE t I.m rfl (zP (zF v1 rfl) (zP (zF v1 rfl) (jO (zD (zK (jd e I.m (za v0 (za v3 zb))) (za v4 zb))) zb))))))
   zv)
  (zc (zG (jj (jd o I.m (za v2 (zP (zF v4 rfl) zb))))
   (zf (zt (yE t I.m rfl (zP (zF v1 rfl) (zP (zF v1 rfl) (jO (zD (za v3 (zK (jd e I.m (za v0 (za v4 zb))) zb))) zb))))))
   zv)
  (zc (zG (PW.pt (z24 (cmT zO (ixT (zF v1 rfl) zd) zg) (z2m (cmT zO (ixT v0 zd) zg))))
   (zf (zt (jd i I.m (za v0 (za v1 zb)))))
   zv)
  (zf (zt z1b)))))))),?_)
 generalize hK0:K=K1;generalize hK1:C=C1
 revert C1
 revert K1
 show z0M #[] ?_;have lc:=c.cols_le;show !(c,cv,c.cols,rfl,hc,∅,λs m=>m,∅,λl ss H1 L x1 U mem g=>?_);have ls:ss.length<=c.cols.length:=kA U λn m=>(mem n).mp m
 show !(ky B (L _ _ nd.me) (zy (L _ _ nd.wit) zL ?_));show !(ky B (L _ _ nd.me) (zy (L _ _ nd.wit) jc ?_));show !(!(z15 B (L _ _ mL.me) (l,df,ss,_,rfl,x1,L _ _ mL.hds,∅,λH2 Z=>!?_)));have D:=L.trans Z;rw[z77 mem];unfold yT at J G;by_cases h1:yS c.cols (ze th r)=true
 .rw [qc h1]at J;show ifT h1 ?_;show !(yR B (D _ _ nd.me) ?_);show !(z15 B (D _ _ nd.me) ?_);show !(!(th,c,r,cv,.ref a1,rfl,hc.mono λb xs z=>D _ _ z,X.ev (Ev.of (Nt.of D)),λx M S pl=>!?_));clear lp bA H4 R x4;have N:=D.trans (S.trans R);show jL (q:=mk (.pick c r) s) (xs:=xs) (N _ _ nd.ahd) (u.a _ _ _ _ _ _ (nd.ahx.mono λb xs z=>N _ _ z)) (by have:=N _ _ nd.hds;rw[u.h]at this ⊢;show this) x4 (by rw[u.k];show(_,!(pl.ev (Ev.of (Nt.of R)),_,[],rfl,p2.ev (Ev.of (Nt.of N)),rfl))) λx ay b9 H' s' g g pl=>J _ rfl x H' (N.trans s') pl
 rw[wW h1]at J G;show ifF (Qg.mpr h1) ?_;show !(!(z15 B (D _ _ Y.me) (l,bo,ss,_,rfl,Z _ _ x1,D _ _ Y.hds,∅,λM S=>!?_)));have j:=D.trans S;rw[z77 mem];by_cases h2:yS c.cols (ze th s)=true
 .rw [qc h2]at J;show ifT h2 ?_;show !(yR B (j _ _ nd.me) ?_);show !(z15 B (j _ _ nd.me) ?_);show !(!(!(th,c,s,cv,.ref a2,rfl,hc.mono λb xs z=>j _ _ z,p2.ev (Ev.of (Nt.of j)),λx H4 R pl=>?_)));clear lp bA H5 n5 x5;have O:=j.trans (R.trans n5);show jL (q:=mk r (.pick c s)) (xs:=xs) (O _ _ nd.ahd) (u.a _ _ _ _ _ _ (nd.ahx.mono λb xs z=>O _ _ z)) (by have:=O _ _ nd.hds;rw[u.h]at this ⊢;show this) x5 (by rw[u.k];show(_,!(X.ev (Ev.of (Nt.of O)),_,[],rfl,pl.ev (Ev.of (Nt.of n5)),rfl))) λx ay b9 H' s' g g pl=>J _ rfl x H' (O.trans s') pl
 rw[wW h2]at J G;show ifF (Qg.mpr h2) ?_;obtain⟨xr,fN⟩:=z0w nd.ahx;show !(yR B (j _ _ nd.me) (zi (j _ _ nd.ahd) (by rw[fN];show zL) (rfl,!?_)));rw[j7,u.w];cases ip with
 | false=>
  show ifF rfl ?_;show G rfl M j
 | true=>
  show ifT rfl ?_;have em:mk=Qn.pair:=u.p rfl;obtain⟨cp,ys,rfl,bO⟩:=(z0H hc);show !(zi (j _ _ bO) zL (rfl,!?_));rw[j7];subst em;by_cases hw:wordOf c="same"
  .refine ifT (qd hw) ?_;cases c with
   | same x y=>
    obtain⟨m,n,rfl,rfl⟩:=(z8J ok h1 h2);show !(!(th,m,n,r,s,_,_,rfl,hc.mono λb xs z=>j _ _ z,hp.ev (Ev.of (Nt.of j)),λz H' s' pl=>J _ rfl z H' (j.trans s') pl))
   | less x y=>show absurd hw (nb (by kernel_rfl))
   | no x=>show absurd hw (nb (by kernel_rfl))
   | an x y=>show absurd hw (nb (by kernel_rfl))
   | or x y=>show absurd hw (nb (by kernel_rfl))
  .refine ifF (wL hw) ?_;cases c with
   | same x y=>show absurd rfl hw
   | less x y=>show G rfl M j
   | no x=>show G rfl M j
   | an x y=>show G rfl M j
   | or x y=>show G rfl M j
theorem jV.app:∀{a rs:List Qn} {vs us:List V},jV th C H a vs->jV th C H rs us->jV th C H (a++rs) (vs++us)
 | [],_,_,_,h,g=>by rw[show _= []from h];show g
 | _::_,_,_,_,(v,ws,b,h1,h2),g=>(v,ws++_,by rw[b];rfl,h1,h2.app g)
inductive spSentW(C:AD)(vs:List V)(H:Hp)(Q:VK)(E:XK):Prop
 | mk:∀th c q cv v,vs= [cv,v]->zI H c cv->c.size<=20->c.ok (ze th q)->jU th C H q v->zbU th C H (yz th c q) Q->spSentW C vs H Q E
theorem z4X:FnScope ["condition","place"] ["condition","place"] (zj z06):=by done
theorem z4t(F:Fun K "sent_within" "sent_within" z06 f fd)(T:Txt K mg)(u:PC K C)(n:-KnC 1 "Place" ["self","ahead","heads","within"] (spPInit K C) C)(j:-Kn 3 "picked" ["condition","place"] (spPickedP C))(d:-Kn 4 "sent_to_a_part" ["condition","place"] (spSentPart C)):-FnOk CX0 5 f fd ["condition","place"] (spSentW C):=by
 clear z4X F;obtain⟨th,c,q,cv,v,rfl,hc,hz,ok,L,B,G⟩:=h;obtain⟨ws,⟨a,ah,hd,wl,dx,qv,b,xs,rfl,nd⟩,Y⟩:=j6.mp L;obtain⟨cp,ys,rfl,bO⟩:=z0H hc;obtain⟨xr,U⟩:=z0w nd.ahx;intro ag A A3 sh t;show(_,(zc (zG (cmT zO (ixT v0 zd) zg)
   (zf (zt (jd j t.m (zp (ixT v0 zd) (zK (jd j t.m (zp (ixT v0 zd) (za v1 zb))) zb)))))
   zv)
  (zc (zG (z0b kU (ixT (zF v1 rfl) zd) (zu (zh zg (zh zg (zh zg zb)))) (by with_unfolding_all rfl))
   (zf (zt (yE n t.m rfl (zP (zF v1 rfl) (zP (zF v1 rfl) (z0z (jH rfl (CompSc.of (sx:=zj z06) (NX:= ["condition","place"]) (fr:= ["condition"]) (ix:= [0]) rfl rfl ()) (zW (zF v1 rfl)) (λk k k k k k=>jm) (λk k k k k k=>(jd j t.m (za v1 (za v0 zb))))) zb))))))
   zv)
  (zc (zG (z0b kU (ixT (zF v1 rfl) zd) (zu (zh zg (zh zg zb))) (by with_unfolding_all rfl))
   (zf (zt (jd d t.m (za v0 (za v1 zb)))))
   zv)
  (zf (zt z1b))))),?_)
 generalize hK0:K=K1;generalize hK1:C=C1
 revert C1
 revert K1
 show z0M #[] ?_;show !(zi bO zL (rfl,!?_));rw[j7];by_cases hw:wordOf c="and"
 .refine ifT (qd hw) ?_;cases c with
  | an x y=>
   obtain⟨Fy,c1,c2,e0,Z,k1,k2⟩:=hc;cases e0;show !(zi Z jc ?_);show !(zi Z jD (!(th,y,q,c2,_,rfl,k2,L,λz H1 l pl=>?_)));show(th,x,.pick y q,c1,_,rfl,k1.mono λb xs z=>l _ _ z,pl,λz' H2 J dH=>B _ rfl z' H2 (l.trans J) dH)
  | less x y=>show absurd hw (nb (by kernel_rfl))
  | same x y=>show absurd hw (nb (by kernel_rfl))
  | no x=>show absurd hw (nb (by kernel_rfl))
  | or x y=>show absurd hw (nb (by kernel_rfl))
 show ifF (wL hw) ?_;have eW:yz th c q=z9k th c q:=by cases c<;>first|rfl|show absurd rfl hw
 rw[eW]at B G;show !(yR u nd.me (zi nd.ahd (by rw[U];show zL) ?_));clear tp aS H1 l x1;show(tp,!(.inr (SqT.of x1),rfl,rfl,!?_));have hl:=Y.len;have lk:=z2q q;by_cases bj:inV (.str (yc q)) [.str "sort",.str "cols",.str "both"]=true
 .refine ifT bj ?_;obtain⟨q',e,ek,eh,ea⟩:∃q',z9k th c q=AA q'/\kids q'=(kids q).map (Qn.pick c)/\ze th q'=ze th q/\∀(H:Hp)(xs:List V),z04 H q xs->z04 H q' xs:=by
   cases q with
   | sort x r=>show !(rfl,rfl,λk k h=>h)
   | cols ns r=>show !(rfl,rfl,λk k h=>h)
   | both r s=>show !(rfl,rfl,λk k h=>h)
   | _=>show absurd bj (Qg.mp (by kernel_rfl))
  show !(yR u (l _ _ nd.me) ?_);show !(z15 u (l _ _ nd.me) ?_);show !(ky u (l _ _ nd.me) (wl,rfl,(_,SqL.of (l _ _ nd.wit)),?_));show je (xs:=ws) (λi zs H'=>zw H1 H'/\zs.length=i/\jV th C H' (((kids q).take i).map (Qn.pick c)) zs) (zw.refl _,rfl,by rw[w0O];rfl) ?_ ?_ ?_
  .rintro i zs H' hi ⟨p,M,_⟩;show(SqL.of (p _ _ (l _ _ nd.wit)),zH ∅)
  .rintro i y zs H' hi ⟨p,M,I⟩;have S:i<(kids q).length:=by rw[<-hl];show(we.mp hi).1
   obtain⟨v,O,pv⟩:=Y.at (wb S);rw[hi]at O;cases O;have X:=l.trans p;show !(!(th,c,(kids q)[i],_,y,rfl,hc.mono λb xs z=>X _ _ z,pv.ev (Ev.of (Nt.of X)),λx H3 N pl=>(p.trans N,by rw[wg,M];rfl,?_)));rw[qA,wb S,wT];show(I.ev (Ev.of (Nt.of N))).app (_,[],rfl,pl,rfl)
  .rintro zs H' ⟨p,M,I⟩ lp bA;clear lp bA H4 n4 x4 lp;rw[hl,qP]at I;have D:=l.trans (p.trans n4);show jL (q:=q') (xs:=xs) (D _ _ nd.ahd) (ea _ _ (nd.ahx.mono λb xs z=>D _ _ z)) (by rw[eh];show D _ _ nd.hds) x4 (by rw[ek];show I.ev (Ev.of (Nt.of n4))) λx ay b9 H' s' k k pl=>B _ e x H' (D.trans s') pl
 show ifF (Qg.mpr bj) ?_;show !(yR u (l _ _ nd.me) (zi (l _ _ nd.ahd) (by rw[U];show zL) ?_));clear tp2 htp2 H2 J x2;show(tp2,!(.inr (SqT.of x2),rfl,rfl,!?_));have o:=l.trans J;have bt:=L.ev (Ev.of (Nt.of o));have R:zI H2 c (.ref cp):=hc.mono λb xs z=>o _ _ z
 cases q with
 | pair r s=>show ifT (by change inV (.str "pair") _=true;decide) (!(!(th,c,.pair,true,r,s,_,_,rfl,zd1,R,hz,ok,bt,λq' e z H' s' pl=>B q' e z H' (o.trans s') pl,λe H' s'=>G e H' (o.trans s'))))
 | join x y r s=>show ifT (by change inV (.str "join") _=true;decide) (!(!(th,c,.join x y,false,r,s,_,_,rfl,zbQ,R,hz,ok,bt,λq' e z H' s' pl=>B q' e z H' (o.trans s') pl,λe H' s'=>G e H' (o.trans s'))))
 | sort|cols|both=>show absurd (by kernel_rfl) bj
 | _=>show ifF (by kernel_rfl) (G rfl H2 o)
inductive spTakes(C:AD)(vs:List V)(H:Hp)(Q:VK)(E:XK):Prop
 | mk:∀th c q cv v,vs= [v,cv]->zI H c cv->c.size<=20->c.ok (ze th q)->jU th C H q v->(∀H',zw H H'->Q (.bl (yz th c q).isSome) H')->spTakes C vs H Q E
theorem zbv:FnScope ["place","condition"] ["place","condition"] (zj z6q):=by done
theorem zbp(F:Fun K "takes" "takes" z6q f fd)(T:Txt K mg)(a:-Kn 5 "sent_within" ["condition","place"] (spSentW C)):-FnOk CX0 6 f fd ["place","condition"] (spTakes C):=by
 clear zbv F;obtain⟨th,c,q,cv,v,rfl,hc,hz,ok,d,fin⟩:=h;intro ag A A3 i b;show(_,(zf (zt (cmE z6s (jd a b.m (za v1 (za v0 zb))) z1b))),?_);generalize hK0:K=K1;generalize hK1:C=C1
 revert C1
 revert K1
 show z0M #[] ?_;show !(!(th,c,q,cv,v,rfl,hc,hz,ok,d,λq' e z H' s' pl=>(rfl,?_),λe H' s'=>(rfl,?_)))
 .have:=fin H' s';rw[e]at this;show this
 .have:=fin H' s';rw[e]at this;show this
theorem z2A(q:Qn):ze th (beneath q)=ze th q:=by
 induction q with
 | pick _ _ h=>show h
 | _=>rfl
theorem zcR(h:¬yc q="pick"):∀c r,q≠ .pick c r:=λc r e=>h (by rw[e];rfl)
theorem z0J(h:yc q="pick"):∃c r,q= .pick c r:=by
 cases q<;>first|show(_,_,rfl)|show absurd h (Qd (by kernel_rfl))
inductive spPasses(C:AD)(vs:List V)(H:Hp)(Q:VK)(E:XK):Prop
 | mk:∀th c q cv v,vs= [cv,v]->zI H c cv->c.size<=20->c.ok (ze th q)->jU th C H q v->(∀H',zw H H'->Q (.bl (yz th c (beneath q)).isSome) H')->spPasses C vs H Q E
theorem z3D:FnScope ["condition","place","beneath"] ["condition","place"] (zj z4Q):=by done
theorem za5(F:Fun K "passes" "passes" z4Q f fd)(T:Txt K mg)(p:PC K C)(e:-Kn 1 "is_pick" ["place"] (spIsPick C))(i:-Kn 6 "takes" ["place","condition"] (spTakes C)):-FnOk CX0 7 f fd ["condition","place"] (spPasses C):=by
 clear z3D F;obtain⟨th,c,q,cv,v,rfl,hc,hz,ok,o,fin⟩:=(h);intro ag A A3 x n;show(_,(zc (seT 2 z3D v1)
  (zc (z8Q (jj (jd e n.m (za v2 zb)))
   (zf (seT 2 z3D (ixL (zF v2 rfl) zd))))
  (zf (zt (jd i n.m (za v2 (za v0 zb))))))),?_)
 generalize hK0:K=K1;generalize hK1:C=C1
 revert C1
 revert K1
 show z0M #[] ?_;show !?_;show z0D (λm σ H'=>∃(r:Qn)(u:V),σ= [AA cv,AA v,AA u]/\H'=H/\jU th C H r u/\beneath r=beneath q/\m=depth r) (depth q) (q,v,rfl,rfl,o,rfl,rfl) ?_;intro m σ H' zz;obtain⟨r,u,rfl,rfl,l,j,rfl⟩:=(zz);show !(th,r,u,rfl,l,?_);show !?_;by_cases hw:yc r="pick"
 .refine ifT (qd hw) ?_;obtain⟨d,t,rfl⟩:=(z0J hw);obtain⟨y,⟨a,ah,hd,wl,dx,qv,b,xs,rfl,nd⟩,pt⟩:=(l);show(λσ H2=>∃u,σ= [AA cv,AA v,AA u]/\H2=H'/\jU th C H' t u,?_,?_)
  .rintro σ' H2 ⟨u,rfl,rfl,h⟩;show(depth t,by change depth t<depth t+1;lia,t,u,rfl,rfl,h,j,rfl)
  .refine !(ky p nd.me (zy nd.wit zL ?_));show !(rfl,pt)
 .refine ifF (wL hw) ?_;rw[<-j,z4f (zcR hw)]at fin;have s:ze th r=ze th q:=by rw[<-z2A r,j,z2A]
  show !(!(th,c,r,cv,u,rfl,hc,hz,by rw[s];show ok,l,fin))
theorem zaT:decide (wordOf c="and")=zav c:=by
 cases c with
 | an x y=>change decide (("and":Str)="and")=true;decide
 | less x y=>change decide (("less":Str)="and")=false;decide
 | same x y=>change decide (("same":Str)="and")=false;decide
 | no x=>change decide (("not":Str)="and")=false;decide
 | or x y=>change decide (("or":Str)="and")=false;decide
theorem z9q(h:¬yc r="pick"):kl th (.pick c r)=yz th c r:=by
 cases r<;>first|rfl|show absurd rfl h
inductive spTurnedPick(C:AD)(vs:List V)(H:Hp)(Q:VK)(E:XK):Prop
 | mk:∀th (c:Cond) r v,vs= [v]->c.ok (ze th r)->c.size<=20->jU th C H (.pick c r) v->zbU th C H (kl th (.pick c r)) Q->spTurnedPick C vs H Q E
theorem z0P:FnScope ["place","condition","inner"] ["place"] (zj z1j):=by done
theorem z4U(F:Fun K "turned_pick" "turned_pick" z1j f fd)(T:Txt K mg)(y:PC K C)(l:-Kn 1 "is_pick" ["place"] (spIsPick C))(i:-Kn 5 "sent_within" ["condition","place"] (spSentW C))(n:-Kn 7 "passes" ["condition","place"] (spPasses C))(j:-Kn 3 "picked" ["condition","place"] (spPickedP C)):-FnOk CX0 8 f fd ["place"] (spTurnedPick C):=by
 clear z0P F;obtain⟨th,c,r,v,rfl,ok,hz,N,q,p⟩:=h;obtain⟨B,⟨a,ah,hd,wl,dx,qv,b,xs,rfl,nd⟩,u⟩:=id N;obtain⟨cv,rfl,hc⟩:=id nd.ahx;obtain⟨cp,ys,rfl,L⟩:=z0H hc;intro ag A A3 X s;show(_,(zc (seT 1 z0P (ixT (zF v0 rfl) zd))
  (zc (seT 2 z0P (ixL (zF v0 rfl) zd))
  (zc (zG (PW.pt (zfM (cmT zO (ixT v1 zd) zg) (zeP (kh (jj (jd l s.m (za v2 zb)))))))
   (zf (zt (jd i s.m (za v1 (za v2 zb)))))
   zv)
  (zc (zG (jj (jd n s.m (za v1 (za v2 zb))))
   (zf (zt (jd j s.m (zp (ixT (zF v2 rfl) zd) (zK (jd j s.m (za v1 (zp (ixL (zF v2 rfl) zd) zb))) zb)))))
   zv)
  (zf (zt z1b)))))),?_)
 generalize hK0:K=K1;generalize hK1:C=C1
 revert C1
 revert K1
 show z0M #[] ?_;show !(yR y nd.me (zi nd.ahd jc ?_));show !(ky y nd.me (zy nd.wit zL ?_));show !(zi L zL (rfl,!?_));rw[j7,zaT];by_cases ha:zav c=true
 .refine ifT ha ?_;have e:kl th (.pick c r)=yz th c r:=by
   by_cases hw:yc r="pick"
   .obtain⟨d,t,rfl⟩:=z0J hw
    change(if zav c=true then _ else _)=_
    rw[qc ha]
   .exact z9q hw
  rw[e]at q p;show !(!(th,c,r,_,B,rfl,hc,hz,ok,u,q,p))
 .refine ifF (Qg.mpr ha) ?_;show !(th,r,B,rfl,u,?_);show !?_;by_cases hw:yc r="pick"
  .rw [qd hw];show ifF rfl ?_;obtain⟨d,t,rfl⟩:=z0J hw;obtain⟨w2,⟨a2,Z,bo,cM,ci,bT,b2,Y,rfl,x⟩,pt⟩:=id u;obtain⟨U,rfl,O⟩:=id x.ahx;have e:kl th (.pick c (.pick d t))=if(yz th c (beneath t)).isSome=true then AA (.pick d (.pick c t))else none:=by
    change(if zav c=true then _ else _)=_
    rw[wW ha]
   rw[e]at q p;show !(!(th,c,.pick d t,_,_,rfl,hc,hz,ok,u,λH1 o=>!?_));have S:beneath (.pick d t)=beneath t:=rfl;rw[S];by_cases hs:(yz th c (beneath t)).isSome=true
   .rw [qc hs]at q;show ifT hs ?_;show !(yR y (o _ _ x.me) (zi (o _ _ x.ahd) jc ?_));show !(!(ky y (o _ _ x.me) (zy (o _ _ x.wit) zL (th,c,t,_,w2,rfl,hc.mono λb xs z=>o _ _ z,pt.ev (Ev.of (Nt.of o)),λz H2 G pl=>?_))));have D:=o.trans G;show(th,d,.pick c t,U,_,rfl,O.mono λb xs z=>D _ _ z,pl,λR J I M=>q _ rfl R J (D.trans I) M)
   .rw [wW hs]at p;show ifF (Qg.mpr hs) ?_;show p rfl H1 o
  .rw [wL hw];show ifT rfl ?_;rw[z9q hw]at q p;show !(!(th,c,r,_,B,rfl,hc,hz,ok,u,q,p))
theorem z7e{hd:AD}(ha:H ah=AA (.tup xs))(u:z04 H q xs)(s:H hd=AA (.lst ((ze th q).map V.str)))(o:H wl=AA (.lst ws))(l:jV th C H (kids q) ws)
  (fin:∀(x:AD)(H':Hp),zw H H'->jU th C H' q (.ref x)->R x .non H'):
  ∀x dx,H x=AB->H dx=AB->dx≠x->spPInit K C (.ref x::([.ref ah,.ref hd,.ref wl]++[])) (upd (upd H dx (.own x)) x (.ins C dx [])) (R x) E:=by
 intro x dx B b w;obtain⟨I,q',F,a,D,p,G,j,t,e,h1,h2,A,i,f,n⟩:=jL (K:=K) (E:=E) (Q:=λv H'=>∀z,v= .ref z->R z .non H') ha u s o l (λz a J H' s' m m pl y r=>by cases r;show fin z H' s' pl) x dx B b w;show(I,q',F,a,D,p,G,j,t,e,h1,h2,A,i,f,λqv H' h c d=>(n qv H' h c d).2 x rfl)
theorem z28(h:yc q="first"):∃n r,q= .first n r:=by
 cases q<;>first|show(_,_,rfl)|show absurd h (Qd (by kernel_rfl))
theorem z1H(h:yc q="cols"):∃ns r,q= .cols ns r:=by
 cases q<;>first|show(_,_,rfl)|show absurd h (Qd (by kernel_rfl))
theorem z2L(h:yc q="sort"):∃a r,q= .sort a r:=by
 cases q<;>first|show(_,_,rfl)|show absurd h (Qd (by kernel_rfl))
inductive spTurnedFirst(C:AD)(vs:List V)(H:Hp)(Q:VK)(E:XK):Prop
 | mk:∀th n r v,vs= [v]->jU th C H (.first n r) v->zbU th C H (kl th (.first n r)) Q->spTurnedFirst C vs H Q E
theorem z0n:FnScope ["place","inner","beneath"] ["place"] (zj z0S):=by done
theorem z43(F:Fun K "turned_first" "turned_first" z0S f fd)(T:Txt K mg)(e:PC K C)(c:-KnC 1 "Place" ["self","ahead","heads","within"] (spPInit K C) C):-FnOk CX0 3 f fd ["place"] (spTurnedFirst C):=by
 clear z0n F;obtain⟨th,n,r,v,rfl,L,D,N⟩:=h;obtain⟨wv,⟨a,ah,hd,wl,dx,qv,b,xs,rfl,nd⟩,G⟩:=id L;have ex:xs= [.str "first",.int n]:=nd.ahx;subst ex;obtain⟨us,⟨a2,cC,bo,cM,ci,bT,b2,p,rfl,d⟩,B⟩:=j6.mp G;obtain⟨U,s⟩:=z0w d.ahx;intro ag A A3 S o;show(_,(zc (seT 1 z0n (ixL (zF v0 rfl) zd))
  (zc (zG (cmT zO (ixT (zF v1 rfl) zd) zg)
   (zf (zt (yE c o.m rfl (zA (zu (zh zg (zK (zM (z5S rfl) rfl T.min PyProof.Rows.boot_min (zp (ixT (zF v0 rfl) zd) (zp (ixT (zF v1 rfl) zd) zb))) zb))) (zP (zF v0 rfl) (zP (zF v1 rfl) zb))))))
   zv)
  (zc (zG (cmT zO (ixT (zF v1 rfl) zd) zg)
   (zc (seT 2 z0n (ixL (zF v1 rfl) zd))
   (zf (zt (yE c o.m rfl (zP (zF v1 rfl) (zP (zF v1 rfl) (jO (zD (zK (yE c o.m rfl (zP (zF v0 rfl) (zP (zF v2 rfl) (jO (zD (za v2 zb)) zb)))) zb)) zb)))))))
   zv)
  (zf (zt z1b))))),?_)
 generalize hK0:K=K1;generalize hK1:C=C1
 revert C1
 revert K1
 show z0M #[] ?_;show !(ky e nd.me (zy nd.wit zL ?_));show !(yR e d.me (zi d.ahd (by rw[s];show zL) (rfl,!?_)));rw[j7];by_cases h1:yc r="first"
 .refine ifT (qd h1) ?_;obtain⟨m,t,rfl⟩:=z28 h1;have ex2:p= [.str "first",.int m]:=d.ahx;subst ex2;show !(yR e nd.me (zi nd.ahd jc ?_));show !(yR e d.me (zi d.ahd jc (n,m,rfl,(yx rfl),λtp I=>?_)));clear tp I H1 n1 x1 tp;rw[show(if m<n then m else n)=min n m by split<;>lia]at x1;show !(z15 e (n1 _ _ nd.me) ?_);show !(ky e (n1 _ _ d.me) ?_);show jL (q:= .first (min n m) t) (xs:= [.str "first",.int (min n m)]) x1 rfl (n1 _ _ nd.hds) (n1 _ _ d.wit) (B.ev (Ev.of (Nt.of n1))) λx M J H' s' k k pl=>D _ rfl x H' (n1.trans s') pl
 show ifF (wL h1) ?_;show !(yR e d.me (zi d.ahd (by rw[s];show zL) (rfl,!?_)));rw[j7];by_cases h2:yc r="cols"
 .refine ifT (qd h2) ?_;obtain⟨ns,t,rfl⟩:=z1H h2;obtain⟨w3,Fz,rfl,u,rfl⟩:=B;obtain⟨FA,⟨R,FB,Y,FC,Z,FE,X,FF,rfl,y⟩,_⟩:=j6.mp u;show !(ky e d.me (zy d.wit zL ?_));show !(yR e d.me ?_);show !(z15 e d.me ?_);show !(yR e nd.me ?_);show !(z15 e y.me ?_);show !?_;clear lp bA H1 n1 x1;show z7e (q:= .first n t) (xs:= [.str "first",.int n]) (n1 _ _ nd.ahd) rfl (n1 _ _ y.hds) x1 (_,[],rfl,u.ev (Ev.of (Nt.of n1)),rfl) λx H2 O pl=>(rfl,(yx rfl),λi j=>?_)
  clear i j H3 n3 x3 i;have l:=n1.trans (O.trans n3);show jL (q:= .cols ns (.first n t)) (xs:=p) (l _ _ d.ahd) (d.ahx.mono λb xs z=>l _ _ z) (l _ _ d.hds) x3 (_,[],rfl,pl.ev (Ev.of (Nt.of n3)),rfl) λx M J H' s' k k pl=>D _ rfl x H' (l.trans s') pl
 show ifF (wL h2) ?_;show N ?_ H (zw.refl _);cases r<;>first|rfl|show absurd rfl h1|show absurd rfl h2
theorem zdC(h:z04 H q xs):∀v∈xs,yD v=true\/∃p zs,v= .ref p/\SqT K H p zs:=by
 cases q with
 | pick c q=>
  obtain⟨x,rfl,hc⟩:=h;obtain⟨p,ys,rfl,d⟩:=z0H hc;intro v m;simp only[wF,qh,QE]at m;rcases m with rfl|rfl
  .exact .inl rfl
  .exact .inr (p,!(SqT.of d))
 | cols ns q=>
  obtain⟨x,rfl,e⟩:=h;intro v m;simp only[wF,qh,QE]at m;rcases m with rfl|rfl
  .exact .inl rfl
  .exact .inr (x,!(SqT.of e))
 | table n=>
  intro v m;rw[show xs=_ from h]at m;simp only[wF,qh,QE]at m;rcases m with rfl|rfl<;>show .inl rfl
 | pair q r=>
  intro v m;rw[show xs=_ from h]at m;simp only[wF,qh,QE]at m;rcases m with rfl<;>show .inl rfl
 | join a b q r=>
  intro v m;rw[show xs=_ from h]at m;simp only[wF,qh,QE]at m;rcases m with rfl|rfl|rfl<;>show .inl rfl
 | both q r=>
  intro v m;rw[show xs=_ from h]at m;simp only[wF,qh,QE]at m;rcases m with rfl<;>show .inl rfl
 | first n q=>
  intro v m;rw[show xs=_ from h]at m;simp only[wF,qh,QE]at m;rcases m with rfl|rfl<;>show .inl rfl
 | group a b n s q=>
  intro v m;rw[show xs=_ from h]at m;simp only[wF,qh,QE]at m;rcases m with rfl|rfl|rfl|rfl|rfl<;>show .inl rfl
 | sort a q=>
  intro v m;rw[show xs=_ from h]at m;simp only[wF,qh,QE]at m;rcases m with rfl|rfl<;>show .inl rfl
theorem zdv{a:Str}(h:z04 H q xs):xs=(["sort",a]:List Str).map V.str↔∃r,q= .sort a r:=by
 constructor
 .intro e;obtain⟨r,c⟩:=z0w h;rw[e]at c;have d:yc q="sort":=by
   have:=(List.cons.inj c).1
   injection this with this
   show this.symm
  obtain⟨b,t,rfl⟩:=z2L d;rw[show xs=_ from h]at e;have:=(List.cons.inj (List.cons.inj e).2).1
  injection this with this
  rw[this];show(t,rfl)
 .rintro⟨r,rfl⟩;show h
inductive spTurned(C:AD)(vs:List V)(H:Hp)(Q:VK)(E:XK):Prop
 | mk:∀th q v,vs= [v]->wfQ th q->jU th C H q v->zbU th C H (kl th q) Q->spTurned C vs H Q E
theorem z5R:FnScope ["place","word"] ["place"] (zj z4z):=by done
theorem zak(F:Fun K "turned" "turned" z4z f fd)(T:Txt K mg)(j:PC K C)(o:-KnC 1 "Place" ["self","ahead","heads","within"] (spPInit K C) C)(i:-Kn 8 "turned_pick" ["place"] (spTurnedPick C))(d:-Kn 3 "turned_first" ["place"] (spTurnedFirst C)):-FnOk CX0 9 f fd ["place"] (spTurned C):=by
 clear z5R F;obtain⟨th,q,v,rfl,wf,z,y,p⟩:=(h);obtain⟨ws,⟨a,ah,hd,wl,dx,qv,b,xs,rfl,nd⟩,G⟩:=(j6.mp z);obtain⟨Y,M⟩:=z0w nd.ahx;intro ag A A3 X s;have J:=z3O s;show(_,(zc (seT 1 z5R (ixT (zF v0 rfl) zd))
  (zc (zG (cmT zO v1 zg)
   (zf (zt (jd i s.m (za v0 zb))))
   zv)
  (zc (zG (cmT zO v1 zg)
   (zf (zt (jd d s.m (za v0 zb))))
   zv)
  (zc (zG (PW.pt (z24 (cmT zO v1 zg) (z2m (cmT zO (ixT (zF (ixL (zF v0 rfl) zd) rfl) zd) zg))))
   (zf (zt (yE o s.m rfl (zP (zF v0 rfl) (zP (zF v0 rfl) (zP (zF (ixL (zF v0 rfl) zd) rfl) zb))))))
   zv)
  (zc (zG (PW.pt (z24 (cmT zO v1 zg) (z2m (cmT (zb5 (K:=K) rfl J) (zF (ixL (zF v0 rfl) zd) rfl) (zF v0 rfl)))))
   (zf (zt (ixL (zF v0 rfl) zd)))
   zv)
  (zf (zt z1b))))))),?_)
 generalize hK0:K=K1;generalize hK1:C=C1
 revert C1
 revert K1
 show z0M #[] ?_;show !(yR j nd.me (zi nd.ahd (by rw[M];show zL) ?_));show !(rfl,!?_);rw[j7];by_cases h1:yc q="pick"
 .refine ifT (qd h1) ?_;obtain⟨c,r,rfl⟩:=(z0J h1);show !(th,c,r,_,rfl,wf.1,wf.2.1,z,y,p)
 show ifF (wL h1) ?_;show !(rfl,!?_);rw[j7];by_cases h2:yc q="first"
 .refine ifT (qd h2) ?_;obtain⟨n,r,rfl⟩:=(z28 h2);show !(th,n,r,_,rfl,z,y,p)
 show ifF (wL h2) ?_;show !(rfl,!?_);rw[j7];by_cases h3:yc q="cols"
 .refine ifT (qd h3) ?_;obtain⟨ns,r,rfl⟩:=(z1H h3);obtain⟨w2,N,rfl,u,rfl⟩:=(id G);obtain⟨us,⟨a2,I,U,S,O,R,b2,B,rfl,l⟩,D⟩:=(j6.mp u);obtain⟨FG,L⟩:=z0w l.ahx;show !(ky j nd.me (zy nd.wit zL (yR j l.me (zi l.ahd (by rw[L];show zL) (rfl,!?_)))));rw[j7];by_cases h4:yc r="cols"
  .refine ifT (qd h4) ?_;obtain⟨Z,t,rfl⟩:=(z1H h4);show !(yR j nd.me (!(z15 j nd.me (!(ky j nd.me (zy nd.wit zL (ky j l.me ?_)))))));show jL (q:= .cols ns t) (xs:=xs) nd.ahd nd.ahx nd.hds l.wit D λx ay b9 H' s' k k pl=>y _ rfl x H' s' pl
  .refine ifF (wL h4) ?_;show !(rfl,!?_);rw[j7];show ifF (wL (nb (by kernel_rfl))) ?_;show p ?_ H (zw.refl _);cases r<;>first|rfl|show absurd rfl h4
 show ifF (wL h3) ?_;show !(rfl,!?_);rw[j7];by_cases h4:yc q="sort"
 .refine ifT (qd h4) ?_;obtain⟨n,r,rfl⟩:=(z2L h4);obtain⟨w2,N,rfl,u,rfl⟩:=(id G);obtain⟨us,⟨a2,I,U,S,O,R,b2,B,rfl,l⟩,D⟩:=(j6.mp u);have ex:xs=(["sort",n]:List Str).map V.str:=nd.ahx;show !(ky j nd.me (zy nd.wit zL (yR j l.me (!(yR j nd.me (I,ah,B,["sort",n],rfl,rfl,SqT.of l.ahd,SqT.of (by rw[<-ex];show nd.ahd),zdC l.ahx,λt ht=>!?_))))));have hs:=zdv (a:=n) l.ahx;by_cases h5:t=true
  .refine ifT h5 ?_;obtain⟨t',rfl⟩:=hs.mp (ht.mp h5);show !(ky j nd.me (zy nd.wit zL ?_));show y (.sort n t') (by change(if n=n then _ else _)=_;rw[qc rfl]) a2 H (zw.refl _) u
  .refine ifF (Qg.mpr h5) ?_;show p ?_ H (zw.refl _);cases r with
   | sort m t'=>
    change(if m=n then _ else _)=_
    rw[wW λe=>h5 (ht.mpr (hs.mpr (t',by rw[e])))]
   | _=>rfl
 show ifF (wL h4) ?_;show p ?_ H (zw.refl _);cases q<;>first|rfl|show absurd rfl h1|show absurd rfl h2|show absurd rfl h3|show absurd rfl h4
theorem z7l(h:yc q="table"):∃n,q= .table n:=by
 cases q<;>first|show(_,rfl)|show absurd h (Qd (by kernel_rfl))
theorem z8a(h:yc q="pair"):∃r s,q= .pair r s:=by
 cases q<;>first|show(_,_,rfl)|show absurd h (Qd (by kernel_rfl))
theorem z8U(h:yc q="join"):∃a b r s,q= .join a b r s:=by
 cases q<;>first|show(_,_,_,_,rfl)|show absurd h (Qd (by kernel_rfl))
theorem z8T(h:yc q="both"):∃r s,q= .both r s:=by
 cases q<;>first|show(_,_,rfl)|show absurd h (Qd (by kernel_rfl))
theorem z7x(h:yc q="group"):∃a b n s r,q= .group a b n s r:=by
 cases q<;>first|show(_,_,_,_,_,rfl)|show absurd h (Qd (by kernel_rfl))
theorem z7c:∀{ns a:List Str},ns.map V.str=a.map V.str->ns=a
 | [],[],_=>rfl
 | [],_::_,h=>by cases h
 | _::_,[],h=>by cases h
 | n::ns,m::a,h=>by
  rw[qK,qK]at h
  injection h with h1 h2
  injection h1 with h1
  rw[h1,z7c h2]
theorem z2U{a b:Side}(h:a.v=b.v):a=b:=by
 cases a<;>cases b<;>first|(injection h with h;rw[h])|cases h
theorem z1o{d:Cond}{v:V}(h:zI H c v)(g:zI H d v):wordOf c=wordOf d:=by
 obtain⟨p,ys,rfl,b⟩:=z0H h;obtain⟨p',f,e,a⟩:=z0H g;cases e;rw[b]at a
 injection a with a
 injection a with a
 injection a with a _
 injection a with a
theorem zbq:∀{d:Cond} {v:V},zI H c v->zI H d v->c=d:=by
 induction c with
 | less a b=>
  intro d' v h g;have j:=z1o h g;cases d' with
  | less a' t=>
   obtain⟨p,rfl,i⟩:=(h);obtain⟨p',e,f⟩:=(g);cases e;rw[i]at f
   injection f with f
   injection f with f
   injection f with _ f
   injection f with h1 f
   injection f with h2 _
   rw[z2U h1,z2U h2]
  | _=>show absurd j (Qd (by kernel_rfl))
 | same a b=>
  intro d' v h g;have j:=z1o h g;cases d' with
  | same a' t=>
   obtain⟨p,rfl,i⟩:=(h);obtain⟨p',e,f⟩:=(g);cases e;rw[i]at f
   injection f with f
   injection f with f
   injection f with _ f
   injection f with h1 f
   injection f with h2 _
   rw[z2U h1,z2U h2]
  | _=>show absurd j (Qd (by kernel_rfl))
 | no c w=>
  intro d' v h g;have j:=z1o h g;cases d' with
  | no s=>
   obtain⟨p,x,rfl,i,h1⟩:=(h);obtain⟨p',r,e,f,o⟩:=(g);cases e;rw[i]at f
   injection f with f
   injection f with f
   injection f with _ f
   injection f with e1 _
   subst e1;rw[w h1 o]
  | _=>show absurd j (Qd (by kernel_rfl))
 | an c d n l=>
  intro d' v h g;have j:=z1o h g;cases d' with
  | an s d'=>
   obtain⟨p,x,y,rfl,i,h1,h2⟩:=(h);obtain⟨p',r,u,e,f,o,q⟩:=(g);cases e;rw[i]at f
   injection f with f
   injection f with f
   injection f with _ f
   injection f with e1 f
   injection f with e2 _
   subst e1 e2;rw[n h1 o,l h2 q]
  | _=>show absurd j (Qd (by kernel_rfl))
 | or c d n l=>
  intro d' v h g;have j:=z1o h g;cases d' with
  | or s d'=>
   obtain⟨p,x,y,rfl,i,h1,h2⟩:=(h);obtain⟨p',r,u,e,f,o,q⟩:=(g);cases e;rw[i]at f
   injection f with f
   injection f with f
   injection f with _ f
   injection f with e1 f
   injection f with e2 _
   subst e1 e2;rw[n h1 o,l h2 q]
  | _=>show absurd j (Qd (by kernel_rfl))
theorem z6w{v:V}(h:QAt H q v):∃p xs kv,v= .ref p/\H p=AA (.tup (xs++kv))/\z04 H q xs/\yu H (kids q) kv:=by
 cases q with
 | table n=>obtain⟨p,rfl,d⟩:=(h);show(p,_,[],rfl,d,rfl,rfl)
 | pick c q=>obtain⟨p,x,y,rfl,d,f,e⟩:=(h);show(p,[_,_],[y],rfl,d,(x,rfl,f),y,[],rfl,e,rfl)
 | cols ns q=>obtain⟨p,x,y,rfl,d,f,e⟩:=(h);show(p,[_,_],[y],rfl,d,(x,rfl,f),y,[],rfl,e,rfl)
 | first n q=>obtain⟨p,y,rfl,d,e⟩:=(h);show(p,[_,_],[y],rfl,d,rfl,y,[],rfl,e,rfl)
 | group a b n s q=>obtain⟨p,y,rfl,d,e⟩:=(h);show(p,[_,_,_,_,_],[y],rfl,d,rfl,y,[],rfl,e,rfl)
 | sort a q=>obtain⟨p,y,rfl,d,e⟩:=(h);show(p,[_,_],[y],rfl,d,rfl,y,[],rfl,e,rfl)
 | pair q r=>obtain⟨p,x,y,rfl,d,f,e⟩:=(h);show(p,[_],[x,y],rfl,d,rfl,x,[y],rfl,f,y,[],rfl,e,rfl)
 | join a b q r=>obtain⟨p,x,y,rfl,d,f,e⟩:=(h);show(p,[_,_,_],[x,y],rfl,d,rfl,x,[y],rfl,f,y,[],rfl,e,rfl)
 | both q r=>obtain⟨p,x,y,rfl,d,f,e⟩:=(h);show(p,[_],[x,y],rfl,d,rfl,x,[y],rfl,f,y,[],rfl,e,rfl)
theorem z0C{v:V}(h:QAt H q v)(g:QAt H r v):yc r=yc q:=by
 obtain⟨p,xs,kv,rfl,c,ha,_⟩:=z6w h;obtain⟨p',f,d,e,a,b,_⟩:=z6w g;cases e;obtain⟨z,rfl⟩:=z0w ha;obtain⟨i,rfl⟩:=z0w b;rw[c,List.cons_append,List.cons_append]at a
 injection a with a
 injection a with a
 injection a with a _
 injection a with a
 show a.symm
theorem zfv:∀{r:Qn} {v:V},QAt H q v->QAt H r v->q=r:=by
 induction q with
 | table n=>
  intro r' v h g;obtain⟨z,rfl⟩:=z7l (z0C h g);obtain⟨p,rfl,f⟩:=(h);obtain⟨p',e,d⟩:=(g);cases e;rw[f]at d;cases d
  rfl
 | pick c q t=>
  intro r' v h g;obtain⟨C,q',rfl⟩:=(z0J (z0C h g));obtain⟨p,x,y,rfl,f,h1,h2⟩:=(h);obtain⟨p',w,u,e,d,j,i⟩:=(g);cases e;rw[f]at d;cases d;rw[zbq h1 j,t h2 i]
 | cols ns q t=>
  intro r' v h g;obtain⟨B,q',rfl⟩:=(z1H (z0C h g));obtain⟨p,x,y,rfl,f,h1,h2⟩:=(h);obtain⟨p',w,u,e,d,j,i⟩:=(g);cases e;rw[f]at d;cases d;rw[h1]at j
  injection j with j
  injection j with j
  rw[z7c j,t h2 i]
 | pair q r o l=>
  intro r' v h g;obtain⟨q',r',rfl⟩:=(z8a (z0C h g));obtain⟨p,x,y,rfl,f,h1,h2⟩:=(h);obtain⟨p',w,u,e,d,j,i⟩:=(g);cases e;rw[f]at d;cases d;rw[o h1 j,l h2 i]
 | join a b q r o l=>
  intro r' v h g;obtain⟨a',A,q',r',rfl⟩:=(z8U (z0C h g));obtain⟨p,x,y,rfl,f,h1,h2⟩:=(h);obtain⟨p',w,u,e,d,j,i⟩:=(g);cases e;rw[f]at d;cases d;rw[o h1 j,l h2 i]
 | both q r o l=>
  intro r' v h g;obtain⟨q',r',rfl⟩:=(z8T (z0C h g));obtain⟨p,x,y,rfl,f,h1,h2⟩:=(h);obtain⟨p',w,u,e,d,j,i⟩:=(g);cases e;rw[f]at d;cases d;rw[o h1 j,l h2 i]
 | first n q t=>
  intro r' v h g;obtain⟨z,q',rfl⟩:=(z28 (z0C h g));obtain⟨p,y,rfl,f,h2⟩:=(h);obtain⟨p',u,e,d,i⟩:=(g);cases e;rw[f]at d;cases d;rw[t h2 i]
 | group a b n s q t=>
  intro r' v h g;obtain⟨a',A,z,s',q',rfl⟩:=(z7x (z0C h g));obtain⟨p,y,rfl,f,h2⟩:=(h);obtain⟨p',u,e,d,i⟩:=(g);cases e;rw[f]at d;cases d;rw[t h2 i]
 | sort a q t=>
  intro r' v h g;obtain⟨a',q',rfl⟩:=(z2L (z0C h g));obtain⟨p,y,rfl,f,h2⟩:=(h);obtain⟨p',u,e,d,i⟩:=(g);cases e;rw[f]at d;cases d;rw[t h2 i]
theorem NodeAt.ev{a hd:AD}{b1:Bool}(e:Ev th C H H1)(h:NodeAt th C H q a ws ah hd wl dx qv b xs)(h1:H1 a=AA (.ins C dx (jG ah hd wl qv b1)))(o:b1=b\/nf th q):NodeAt th C H1 q a ws ah hd wl dx qv b1 xs:=by
 have c:∀b xs,H b=AA (.tup xs)->H1 b=AA (.tup xs):=λb xs z=>e.tup z
 show(h1,e.tup h.ahd,h.ahx.mono c,e.lst h.hds,e.lst h.wit,h.qst.mono c,λz=>?_);rcases o with rfl|o
 .exact h.set z
 .exact o
def Ev.refl(H:Hp):Ev th C H H:=Ev.of (Nt.refl H)
theorem Ev.trans(x:Ev th C H H1)(y:Ev th C H1 H2):Ev th C H H2:=by
 show(λb o e n m=>y.t b o (x.t b o e n m) n m,λa dx ah hd wl qv b e=>?_);obtain⟨b1,f,c⟩:=x.n a dx ah hd wl qv b e;obtain⟨b2,h,d⟩:=y.n a dx ah hd wl qv b1 f;show(b2,h,?_);rcases d with rfl|⟨rfl,d⟩
 .exact c
 .refine .inr (rfl,λq ws xs nd=>?_);show d q ws xs (nd.ev x f ?_);rcases c with rfl|⟨_,c⟩
  .exact .inl rfl
  .exact .inr (c q ws xs nd)
theorem zaK{a hd:AD}(h:NodeAt th C H q a ws ah hd wl dx qv b xs)(n:nf th q):Ev th C H (upd H a (.ins C dx (jG ah hd wl qv true))):=by
 show(λc o e v m=>?_,λa' j l i p f c e=>?_)
 .rw [zn λz=>by rw[z,h.me]at e;cases e;show m _ _ _ rfl];show e
 .by_cases z:a'=a
  .subst z;rw[h.me]at e;have d:dx=j/\ah=l/\hd=i/\wl=p/\qv=f/\b=c:=by
    unfold jG at e;simp only[Option.some.injEq,HO.ins.injEq,List.cons.injEq,Prod.mk.injEq,true_and,and_true,V.ref.injEq,V.bl.injEq]at e;show e
   obtain⟨rfl,rfl,rfl,rfl,rfl,rfl⟩:=d;show(true,zm,.inr (rfl,λq' s r nd=>by rw[zfv nd.qst h.qst];show n))
  .exact(c,by rw[zn z];show e,.inl rfl)
inductive SetV(C:AD)(H:Hp)(u:V):Prop
 | mk:∀a dx ah hd wl qv,u= .ref a->H a=AA (.ins C dx (jG ah hd wl qv true))->SetV C H u
theorem SetV.ev(e:Ev th C H H1)(h:SetV C H u):SetV C H1 u:=by
 obtain⟨a,dx,ah,hd,wl,qv,rfl,h⟩:=h;obtain⟨b,h1,o⟩:=e.n a dx ah hd wl qv true h;have:b=true:=by
  rcases o with o|o
  .exact o
  .exact o.1
 subst this;show(a,dx,ah,hd,wl,qv,rfl,h1)
theorem SetV.nf{q:Qn}{u:V}(h:SetV C H u)(p:jU th C H q u):nf th q:=by
 obtain⟨a,dx,ah,hd,wl,qv,rfl,h⟩:=h;obtain⟨ws,⟨a',i,d,j,f,c,b,xs,e,nd⟩,_⟩:=j6.mp p;cases e;have e:=nd.me;rw[h]at e;have:b=true:=by
  unfold jG at e;simp only[Option.some.injEq,HO.ins.injEq,List.cons.injEq,Prod.mk.injEq,true_and,and_true,V.ref.injEq,V.bl.injEq]at e;show e.2.2.2.2.2.symm
 show nd.set this
def PlJ(th:Str->List Str)(C:AD)(H:Hp)(q:Qn)(v:V)(j:Nat):Prop:=∃ws,Node th C H q v ws/\jV th C H (kids q) ws/\∀u∈ws.take j,SetV C H u
theorem PlJ.of{v:V}(h:jU th C H q v):PlJ th C H q v 0:=by
 obtain⟨ws,h1,h2⟩:=j6.mp h;show(ws,h1,h2,λu m=>by rw[w0O]at m;cases m)
theorem PlJ.pl{v:V}(h:PlJ th C H q v j):jU th C H q v:=by
 obtain⟨ws,h1,h2,_⟩:=h;show j6.mpr (ws,h1,h2)
theorem PlJ.ev{v:V}(e:Ev th C H H1)(h:PlJ th C H q v j):PlJ th C H1 q v j:=by
 obtain⟨ws,h1,h2,a⟩:=h;show(ws,h1.ev e,h2.ev e,λu m=>(a u m).ev e)
def z6m(th:Str->List Str)(C:AD)(H:Hp):List (Qn×Nat)->List V->Prop
 | [],vs=>vs= []
 | (p,i)::c,vs=>∃a v us,vs= .ref a::us/\H a=AA (.tup [v,.int (i:Int)])/\PlJ th C H p v i/\z6m th C H c us
theorem z6m.ev(e:Ev th C H H1):∀{c:List (Qn×Nat)} {vs:List V},z6m th C H c vs->z6m th C H1 c vs
 | [],_,h=>h
 | (p,i)::c,_,(a,v,us,b,h1,h2,d)=>(a,v,us,b,e.tup h1,h2.ev e,d.ev e)
theorem z6m.len:∀{c:List (Qn×Nat)} {vs:List V},z6m th C H c vs->vs.length=c.length
 | [],_,h=>by rw[show _= []from h];rfl
 | (p,i)::c,_,(a,v,us,b,_,_,d)=>by rw[b,wP,wP,d.len]
theorem z6m.at:∀{c:List (Qn×Nat)} {vs:List V} {j:Nat} {x:V},z6m th C H c vs->vs[j]? =AA x->∃p i a v,c[j]? =AA (p,i)/\x= .ref a/\H a=AA (.tup [v,.int (i:Int)])/\jU th C H p v
 | [],_,_,_,h,e=>by rw[show _= []from h]at e;cases e
 | (p,i)::c,_,0,_,(a,v,us,b,h1,h2,d),e=>by subst b;cases e;show(p,i,a,v,rfl,rfl,h1,h2.pl)
 | (p,i)::c,_,j+1,_,(a,v,us,b,h1,h2,d),e=>by
  subst b;obtain⟨p',f,a',l,z⟩:=d.at (j:=j) (by simpa using e);show(p',f,a',l,by simpa using z.1,z.2)
theorem yl:zw (hid H d) H:=λb o e=>by
 by_cases z:b=d
 .rw [z,yI]at e;cases e
 .rw [jA z]at e;show e
theorem z0U(h:zw H H'):zw (hid H d) (hid H' d):=λb o e=>by
 by_cases z:b=d
 .rw [z,yI]at e;cases e
 .rw [jA z]at e ⊢;show h b o e
theorem z2l{x:AD}{o:HO}(n:x≠d):hid (upd H x o) d=upd (hid H d) x o:=by
 funext b
 by_cases z:b=d
 .subst z;rw[yI,zn n.symm,yI]
 .rw [jA z];by_cases y:b=x
  .subst y;rw[zm,zm]
  .rw [zn y,zn y,jA z]
theorem z26{o:HO}:hid (upd H d o) d=hid H d:=by
 funext b
 by_cases z:b=d
 .subst z;rw[yI,yI]
 .rw [jA z,jA z,zn z]
theorem z6d{x:AD}{fs gs:List (Str×V)}(h:H x=AA (.ins D dx fs))(n:∀ah hd wl qv b,fs≠jG ah hd wl qv b):Ev th C H (upd H x (.ins D dx gs)):=by
 show(λb o e v m=>?_,λa c ah hd wl qv b e=>(b,?_,.inl rfl))
 .rw [zn λz=>by rw[z,h]at e;cases e;show m _ _ _ rfl];show e
 .rw [zn λz=>by rw[z,h]at e;injection e with e;injection e with _ _ e;show n _ _ _ _ _ e];show e
theorem z6R{q:Str}(t:∀b ps,H b=AA (.tbl ps)->H' b=AA (.tbl ps))(f:∀b o u,H b=AA (.frz o u)->H' b=AA (.frz o u))(h:jR H T lp q):jR H' T lp q:=by
 rcases h with h|⟨c,h,oc,vs,k,h2,a⟩
 .exact .inl (t _ _ h)
 .exact .inr (c,t _ _ h,oc,vs,k,f _ _ _ h2,a)
def Ls.tk(t:∀b ps,H b=AA (.tbl ps)->H' b=AA (.tbl ps))(f:∀b o u,H b=AA (.frz o u)->H' b=AA (.frz o u))(h:Ls τ H):Ls τ H':=(z6R t f h.a,z6R t f h.b,z6R t f h.c,z6R t f h.d,h.n)
theorem Ls.ins{H:Hp}{τ:Nat->AD}{x D dx:AD}{fs:List (Str×V)}{o:HO}(h:Ls τ H)(a:H x=AA (.ins D dx fs)):Ls τ (upd H x o):=
 h.tk (λb ps e=>by rw[zn λz=>by rw[z,a]at e;cases e];show e) λb o u e=>by rw[zn λz=>by rw[z,a]at e;cases e];show e
noncomputable def trF(v:V)(al:AD):List (Str×V):= [("place",v),("above",.ref al)]
theorem z4F{v:V}:∀ah hd wl qv b,trF v al≠jG ah hd wl qv b:=λu u u u u h=>by
 unfold trF jG at h
 injection h with _ h
 injection h with _ h
 cases h
structure TC(K:W.Frag)(D:AD):Prop where
 cls:Cls K D
 pl:NoAttr K D "place"
 ab:NoAttr K D "above"
theorem zfH{v:V}:ke "place" v []=([("place",v)]:List (Str×V)):=rfl
theorem zfx{v:V}:ke "above" (.ref al) ([("place",v)]:List (Str×V))=trF v al:=by simp[ke,trF,show("place":Str)≠"above" by decide]
theorem zcm{v a:V}:ke "place" a (trF v al)=trF a al:=by simp[ke,trF]
def zdK{v:V}:(trF v al).lookup ("place":Str)=AA v:=rfl
theorem zdV{v:V}:(trF v al).lookup ("above":Str)=AA (V.ref al):=by rfl
def z6c{v:V}(b:TC K D)(h:H t=AA (.ins D dx (trF v al)))(q:Q v):∃a' a d fs c,V.ref t= .ref a'/\H a'=AA (.ins a d fs)/\Cls K a/\NoAttr K a "place"/\fs.lookup ("place":Str)=AA c/\Q c:=(t,D,dx,_,_,rfl,h,b.cls,b.pl,zdK,q)
def z9L{v:V}(b:TC K D)(h:H t=AA (.ins D dx (trF v al)))(q:Q (.ref al)):∃a' a d fs c,V.ref t= .ref a'/\H a'=AA (.ins a d fs)/\Cls K a/\NoAttr K a "above"/\fs.lookup ("above":Str)=AA c/\Q c:=(t,D,dx,_,_,rfl,h,b.cls,b.ab,zdV,q)
structure TrAt(th:Str->List Str)(C D:AD)(H:Hp)(t al:AD)(c:List (Qn×Nat))(q:Qn)(v:V)(dx:AD)(vs:List V):Prop where
 me:H t=AA (.ins D dx (trF v al))
 ab:H al=AA (.lst vs.reverse)
 up:z6m th C (hid H al) c vs
 pl:jU th C (hid H al) q v
def zbY{th:Str->List Str}{C:AD}{H:Hp}:∀{a:List Qn} {ws:List V},z0i (λr u H=>jU th C H r u) H a ws->jV th C H a ws
 | [],_,h=>h
 | _::_,_,(v,ws,e,h1,h2)=>(v,ws,e,h1,zbY h2)
inductive spPlaceOver(C:AD)(Ce:Er->AD)(vs:List V)(H:Hp)(Q:VK)(E:XK):Prop
 | mk:∀th tr q v tp wl ws,vs= [.ref tp,v,.ref wl]->FourAt th tr H tp->QAt H q v->kj th q->H wl=AA (.lst ws)->jV th C H (kids q) ws->(jK th q=AB->∀(x:AD)(H':Hp),zw H H'->jU th C H' q (.ref x)->Q (.ref x) H')->(∀e,jK th q=AA e->∀H',zw H H'->E (.ref (Ce e)) AB H')->spPlaceOver C Ce vs H Q E
theorem z2C:FnScope ["tables","question","within","heads"] ["tables","question","within"] (zj z0y):=by done
theorem z5u(F:Fun K "place_over" "place_over" z0y f fd)(T:Txt K mg)(PK:PC K C)(d:-KnC 1 "Place" ["self","ahead","heads","within"] (spPInit K C) C)(c:-KnX 3 "heads_at" ["tables","question","within"] (spHeadsAt K Ce)):-FnOk (CXR P w) 4 f fd ["tables","question","within"] (spPlaceOver C Ce):=by
 show F.okX z2C (λvs H Q E h=>?_) (λag A A3 s H vs Q E j h=>?_)
 .obtain⟨th,tr,q,v,tp,wl,ws,rfl,_⟩:=h
  rfl
 obtain⟨th,tr,q,v,tp,wl,ws,rfl,h4,Y,lm,D,G,fin,bad⟩:=h;obtain⟨p,xs,kv,rfl,B,J,AU⟩:=z6w Y;have hl:=G.len;have bF:=AU.len;have lk:=z2q q;have la:=z4o J;show(_,(zc (seT 3 z2C (jo c jg j.m rfl (za v0 (za v1 (z0z (jH rfl (CompSc.of (sx:=zj z0y) (NX:= ["tables","question","within","heads"]) (fr:= []) (ix:= []) rfl rfl ()) (zW v2) (λr r r r r r=>jm) (λr r r r r r=>(z4c (K:=K) rfl v0 rfl))) zb)))))
  (zf (zt (yE d j.m rfl (zp (jy ze6 v1 yf (jI (zq z3x (leN T.len (za v1 zb)) (leN T.len (za v2 zb))))) (za v3 (za v2 zb))))))),?_)
 show !(!(!(wl,rfl,(_,SqL.of D),?_)));show je (xs:=ws) (λi ys H'=>H'=H/\ys.length=i/\z0i (zdY th) H ((kids q).take i) ys) (rfl,rfl,by rw[w0O];rfl) ?_ ?_ ?_
 .rintro i ys H' hi ⟨rfl,I,_⟩;show(SqL.of D,zH ∅)
 .rintro i y ys H' hi ⟨rfl,I,j⟩;have M:i<(kids q).length:=by rw[<-hl];show(we.mp hi).1
  obtain⟨v,L,pv⟩:=G.at (wb M);rw[hi]at L;cases L;obtain⟨us,⟨a,dg,O,bR,S,qv,b,dB,rfl,nd⟩,_⟩:=j6.mp pv;show !(z15 PK nd.me (rfl,by rw[wg,I];rfl,?_));rw[qA,wb M];show j.app (.ref O,[],rfl,(O,rfl,nd.hds),rfl)
 .rintro ys H' ⟨rfl,I,j⟩ np ax;rw[hl,qP]at j;clear np ax H1 n1 x1 np;show(th,tr,q,.ref p,tp,np,ys,rfl,h4.same n1,Y.same n1,lm,x1,j.imp λr u ⟨B,e,z⟩=>(B,e,n1 _ _ z),λZ af H2 t R=>?_,λe e1 H2 t=>bad e e1 H2 (n1.trans t));have l:=n1.trans t;have n:=l _ _ B;have o:=l _ _ D;show !(!(p,!(.inr (SqT.of n),!(wl,!(.inl (SqL.of o),~~~(!?_))))));have e:HT.sIx (xs++kv).length (xs++kv).length (AA (((xs++kv).length:Int)-(ws.length:Int)))=xs.length:=by
   change(if((xs++kv).length:Int)-(ws.length:Int)<0 then _ else min (((xs++kv).length:Int)-(ws.length:Int)).toNat (xs++kv).length)=_
   rw[wg,wW ∅]
   lia
  have U:=G.ev (Ev.of (Nt.of l));have N:z04 H2 q xs:=J.mono λb xs z=>l _ _ z
  by_cases hz:kv= []
  .subst hz;show .inr (p,!(SqT.of n,(rfl,by rw[e,w03]),?_));rw[w03]at n;show !(!?_);show jL (q:=q) (xs:=xs) n N R o U λx S b9 H' s' r r pl=>fin Z x H' (l.trans s') pl
  .refine .inl (p,!(SqT.of n,λz=>hz ?_,λX aS=>?_))
   .have:=z.2;rw[e,wg]at this;show QV.mp ∅
   .have ec:z1Q (xs++kv) AB (AA (((xs++kv).length:Int)-(ws.length:Int)))=xs:=by
     unfold z1Q;rw[e]
     change((xs++kv).drop 0).take (xs.length-0)=xs
     rw[w1E,Nat.sub_zero,List.take_left']
     rfl
    rw[ec];clear X aS H3 n3 x3 X;have s3:=l.trans n3;show !(!?_);show jL (q:=q) (xs:=xs) x3 (N.mono λb xs z=>n3 _ _ z) (n3 _ _ R) (n3 _ _ o) (U.ev (Ev.of (Nt.of n3))) λx S b9 H' s' r r pl=>fin Z x H' (s3.trans s') pl
inductive spTInit(C D:AD)(Ce:Er->AD)(τ:Nat->AD)(vs:List V)(H:Hp)(Q:VK)(E:XK):Prop
 | mk:∀th tr q v x dx tp,vs= [.ref x,.ref tp,v]->H x=AA (.ins D dx [])->FourAt th tr H tp->QAt H q v->(∀r∈post q,kj th r)->(post q).length<=8000000->Ls τ H->((post q).findSome? (jK th)=AB->∀(v':V)(al:AD)(H':Hp),(∀b o,b≠x->H b=AA o->(∀ps,o≠ .tbl ps)->hid H' al b=AA o)->Ls τ H'->TrAt th C D H' x al [] q v' dx []->Q .non H')->(∀e,(post q).findSome? (jK th)=AA e->∀H',Nt H H'->Ls τ H'->E (.ref (Ce e)) AB H')->spTInit C D Ce τ vs H Q E
theorem z4n:FnScope ["self","tables","question"] ["self","tables","question"] (zj z0c):=by done
theorem z4V{c:AD}(F:Fun K "__init__" "Turner.__init__" z0c f fd)(T:Txt K mg)(I:TC K D)(hc:fd.code= .ref c)(CH:PySem.W.CodeHd base c (τ 4))(B:base.BuiltinsAt mg (τ 4))(l:-KnS (CXR P w) 9 "built_up" ["question","work"] (-z3l Ce 8))(i:-KnX 4 "place_over" ["tables","question","within"] (spPlaceOver C Ce)):-FnOk (CXR P w) 10 f fd ["self","tables","question"] (spTInit C D Ce τ):=by
 show F.okCX z4n (λvs H Q E h=>?_) (λA A3 s H vs Q E hr h=>?_)
 .obtain⟨th,tr,q,v,x,dx,tp,rfl,_⟩:=h
  rfl
 obtain⟨th,tr,q,v,x,dx,tp,rfl,hx,h4,hq,lm,hsz,M,fin,bad⟩:=h;show(_,(zc (z0Q (pv 0) (z2O (k:=4) (T:=τ 4) (c:=c) (j:=1) (a:="part") (b:="within") (y:="tables") l jg.passes hr rfl (pv 2) hc CH B (rfl,rfl,rfl,rfl,rfl,rfl,(),(),()) (w0v rfl) rfl
  (λm m m m m m m m hl=>jo i z9V hl rfl (za (pv 2) (za (pv 0) (za (pv 1) zb))))) rfl) (zf (z0Q (pv 0) (zD zb) rfl))),?_)
 show !(M.d,.ref tp,rfl,λlf c' H2 s2 k2 cJ W=>?_);have J:=z92 M.d k2;have O:=M.kp4 k2 (.inr (c',cJ));show(v,q,lf,_,Ls τ,λr u H=>jU th C H r u,jK th,rfl,hq.nt J,hsz,W.mono (),O,λH1 H2 e z=>z.same e,λr u H1 H2 n z=>z.ev (Ev.of n),λr cs rv wl ws H3 Q1 n3 L3 ge aH rs k kx=>?_,λe0 R H' X U z=>?_,λe L H' X U=>bad e L H' (J.trans X) U)
 .exact(rv,.ref wl,rfl,!(!(!(th,tr,r,rv,tp,wl,ws,rfl,h4.nt (J.trans n3),ge,lm r cs,aH,zbY rs,λe x Y t p4=>k e _ _ (Nt.of t) (L3.same t) p4,λe L Y t=>kx e L Y (Nt.of t) (L3.same t)))))
 .have S:=J.trans X;have N:H' x=AA (.ins D dx []):=S _ _ hx λm z=>by cases z
  show !(x,D,dx,!(N,I.cls,I.pl,by change 0<1000;decide,?_));rw[zfH];have e3:Ev th C H' (upd H' x (.ins D dx [("place",R)])):=z6d N λm m m m m z=>by cases z
  show((yx rfl),λal p=>?_);have G:al≠x:=λz=>by rw[z,zm]at p;cases p
  have sK:H' al=none:=by rw[zn G]at p;show p
  show !(x,D,dx,!((by rw[zn G.symm,zm]),I.cls,I.ab,by change 1<1000;decide,?_));rw[zfx];show fin e0 R al _ (λb o Z e n=>?_) ?_ (zm,by rw[zn G,zm];rfl,rfl,?_)
  .have ft:b≠al:=λz=>by rw[z]at e;have:=S _ _ e n;rw[sK]at this;cases this
   rw[jA ft,zn Z,zn ft,zn Z];show S _ _ e n
  .refine Ls.ins (x:=x) (D:=D) (dx:=dx) (fs:= [("place",R)]) ?_ (by rw[zn G.symm,zm]);show(U.ins N).same (zE p _)
  .rw [z2l G.symm,kQ p];show(z.ev e3).ev (z6d zm λm m m m m z=>by cases z)
theorem z9p{n:Nat}(h:i<n):ixN n (i:Int)=AA i:=by
 unfold ixN;rw[qc ∅,qc ∅]
 rfl
inductive spGoW(C D:AD)(vs:List V)(H:Hp)(Q:VK)(E:XK):Prop
 | mk:∀t dx al a bS ah hd wl us ws qv w b (i:Nat),vs= [.ref t,.int (i:Int)]->H t=AA (.ins D dx (trF (.ref a) al))->H al=AA (.lst us)->us.length<AI->H a=AA (.ins C bS (jG ah hd wl qv b))->H wl=AA (.lst ws)->wl≠al->ws[i]? =AA w->(∀p,H p=AB->Q .non (upd (upd (upd H p (.tup [.ref a,.int (i:Int)])) al (.lst (us++[.ref p]))) t (.ins D dx (trF w al))))->spGoW C D vs H Q E
theorem z2t:FnScope ["self","spot"] ["self","spot"] (zj ki):=by done
theorem z2u(F:Fun K "go_within" "Turner.go_within" ki f fd)(T:Txt K mg)(r:PC K C)(d:TC K D):-FnOk CX0 1 f fd ["self","spot"] (spGoW C D):=by
 clear z2t F;obtain⟨t,dx,al,a,G,ah,hd,wl,us,ws,qv,I,b,i,rfl,ht,c,x,ha,j,q,hi,fin⟩:=h;intro ag A A3 y B;show(_,(zc (jb (apP (zF v0 rfl) (zA (zu (zP (zF v0 rfl) (za v1 zb))) zb)))
  (zf (z0Q v0 (ixL (zF (zF v0 rfl) rfl) v1) rfl))),?_)
 generalize hK0:K=K1;generalize hK1:C=C1;generalize hK2:D=D1
 revert D1
 revert C1
 revert K1
 show z6t #[] ?_;show !(z9L d ht (.inl (rfl,_,SqL.of c),?_));show !(z6c d ht (!((yx rfl),λp l=>?_)));have ne:∀{b:AD} {o:HO},H b=AA o->b≠p:=λ{b o} e z=>by rw[z,l]at e;cases e
 have u:t≠al:=λz=>by rw[z,c]at ht;cases ht
 have s:a≠al:=λz=>by rw[z,c]at ha;cases ha
 show(al,~~~((by rw[zn (ne c)];show c),x,?_));have n:upd (upd H p (.tup [.ref a,.int (i:Int)])) al (.lst (us++[.ref p])) t=AA (.ins D dx (trF (.ref a) al)):=by rw[zn u,zn (ne ht)];show ht
 show !(z6c d n (ky r (by rw[zn s,zn (ne ha)];show ha) (!(zy (by rw[zn q,zn (ne j)];show j) (zZ hi) ?_))));show !(t,D,dx,!(n,d.cls,d.pl,by change 2<1000;decide,?_));rw[zcm];show fin p l
theorem zbM{p k:Qn}(h:z04 H p xs):z04 H (zT p i k) xs:=by
 cases p with
 | pair q r=>change z04 H (if i=0 then _ else _) xs;split<;>show h
 | join a b q r=>change z04 H (if i=0 then _ else _) xs;split<;>show h
 | both q r=>change z04 H (if i=0 then _ else _) xs;split<;>show h
 | _=>show h
theorem z7G{hd:AD}(ha:H ah=AA (.tup xs))(w:z04 H q xs)(t:H hd=AA (.lst ((ze th q).map V.str)))(p:H wl=AA (.lst ws))(n:jV th C H (kids q) ws)
  (fin:∀(x dx:AD)(qv:V)(H':Hp),zw H H'->H x=AB->NodeAt th C H' q x ws ah hd wl dx qv false xs->R x .non H'):
  ∀x dx,H x=AB->H dx=AB->dx≠x->spPInit K C (.ref x::([.ref ah,.ref hd,.ref wl]++[])) (upd (upd H dx (.own x)) x (.ins C dx [])) (R x) E:=by
 intro x dx D b A;obtain⟨J,q',G,a,F,r,I,j,u,e,h1,h2,B,i,f,o⟩:=jL (K:=K) (E:=E) (Q:=λv H'=>∀z,v= .ref z->R z .non H') ha w t p n (λz a l H' s' hz nd m y s=>by cases s;show fin z a l H' s' hz nd) x dx D b A;show(J,q',G,a,F,r,I,j,u,e,h1,h2,B,i,f,λqv H' h c d=>(o qv H' h c d).2 x rfl)
def NodeAt.keep{a hd:AD}(h:NodeAt th C H q a ws ah hd wl dx qv b xs)(k:∀c,c=a\/c=hd\/c=wl->H' c=H c)(t:∀b xs,H b=AA (.tup xs)->H' b=AA (.tup xs)):NodeAt th C H' q a ws ah hd wl dx qv b xs:=
 ((k _ (.inl rfl)).trans h.me,t _ _ h.ahd,h.ahx.mono t,(k _ (.inr (.inl rfl))).trans h.hds,(k _ (.inr (.inr rfl))).trans h.wit,h.qst.mono t,h.set)
inductive spGoB(C D:AD)(vs:List V)(H:Hp)(Q:VK)(E:XK):Prop
 | mk:∀th q t dx al p a bS ah hd wl us (ws:List V) xs qv v b (i:Nat),vs= [.ref t]->H t=AA (.ins D dx (trF v al))->H al=AA (.lst (us++[.ref p]))->H p=AA (.tup [.ref a,.int (i:Int)])->H a=AA (.ins C bS (jG ah hd wl qv b))->i<ws.length->wl≠al->hd≠al->H wl=AA (.lst ws)->H ah=AA (.tup xs)->z04 H q xs->H hd=AA (.lst ((ze th q).map V.str))->jV th C (hid H al) (kids q) (ws.set i v)->(∀(x:AD)(H':Hp),(∀b o,b≠t->b≠al->H b=AA o->H' b=AA o)->H x=AB->H' t=AA (.ins D dx (trF (.ref x) al))->H' al=AA (.lst us)->(∃bR ay b9,NodeAt th C (hid H' al) q x (ws.set i v) ah hd bR ay b9 false xs)->Q .non H')->spGoB C D vs H Q E
theorem kM:FnScope ["self","over","within"] ["self"] (zj kT):=by done
theorem z31(F:Fun K "go_back" "Turner.go_back" kT f fd)(T:Txt K mg)(R:PC K C)(I:TC K D)(l:-KnC 1 "Place" ["self","ahead","heads","within"] (spPInit K C) C):-FnOk CX0 3 f fd ["self"] (spGoB C D):=by
 clear kM F;obtain⟨th,q,t,dx,al,p,a,bS,ah,hd,wl,us,ws,xs,qv,v,b,i,rfl,ht,r,s,ha,hi,sL,U,aH,M,cg,L,bJ,fin⟩:=h;have y:t≠al:=λz=>by rw[z,r]at ht;cases ht
 have G:p≠al:=λz=>by rw[z,r]at s;cases s
 have O:a≠al:=λz=>by rw[z,r]at ha;cases ha
 have FI:ah≠al:=λz=>by rw[z,r]at M;cases M
 intro ag A A3 sh hr;show(_,(zc (seT 1 kM (z4T wR w0I w0J z4D (zF v0 rfl)))
  (zc (seT 2 kM (jq yL rfl T.list qY (zP (zF (ixT v1 zd) rfl) zb)))
  (zc (z8K (zF v0 rfl) (z8W v2 (ixT v1 zd) set_list))
  (zf (z0Q v0 (yE l hr.m rfl (zP (zF (ixT v1 zd) rfl) (zP (zF (ixT v1 zd) rfl) (za v2 zb)))) rfl))))),?_)
 generalize hK0:K=K1;generalize hK1:C=C1;generalize hK2:D=D1
 revert D1
 revert C1
 revert K1
 show z6t #[] ?_;show !(z9L I ht (.inl (rfl,_,SqL.of r),al,_,.ref p,rfl,rfl,r,z37 _ _,?_));rw[w0P];have k1:∀{b:AD} {o:HO},b≠al->H b=AA o->upd H al (.lst us) b=AA o:=λ{b o} n e=>by rw[zn n];show e
 have N:upd H al (.lst us) al=AA (.lst us):=zm;have mQ:hid (upd H al (.lst us)) al=hid H al:=z26;generalize upd H al (.lst us)=H1 at k1 N mQ ⊢;show !(zi (k1 G s) zL (ky R (k1 O ha) (wl,!(.inl (SqL.of (k1 sL aH)),λd Z=>?_))));clear d Z H2 n2 x2 d;show !(z6c I (n2 _ _ (k1 y ht)) (!(!(zi (n2 _ _ (k1 G s)) jc (d,_,_,i,rfl,rfl,x2,?_,?_)))))
 .exact z9p hi
 have u:H1 d=none:=Z;have S:∀b o,H1 b=AA o->upd H2 d (.lst (ws.set i v)) b=AA o:=λb o e=>by rw[zn λz=>by rw[z,u]at e;cases e];show n2 _ _ e
 have x3:upd H2 d (.lst (ws.set i v)) d=AA (.lst (ws.set i v)):=zm;generalize upd H2 d (.lst (ws.set i v))=H3 at S x3 ⊢;have j:zw H1 H3:=S;have AW:zw (hid H al) (hid H3 al):=by rw[<-mQ];show z0U j
 show !(zi (j _ _ (k1 G s)) zL (yR R (j _ _ (k1 O ha)) ?_));show !(zi (j _ _ (k1 G s)) zL (z15 R (j _ _ (k1 O ha)) (!?_)));have tt:∀b xs,H b=AA (.tup xs)->H3 b=AA (.tup xs):=λb xs e=>j _ _ (k1 (λz=>by rw[z,r]at e;cases e) e)
 have fx:∀{b:AD},H3 b=AB->H b=AB\/b=al:=λ{b} e=>by
  by_cases z:b=al
  .exact .inr z
  .refine .inl ?_;cases e2:H b with
   | none=>rfl
   | some o=>have:=j _ _ (k1 z e2);rw[e]at this;cases this
 show z7G (th:=th) (q:=q) (xs:=xs) (tt _ _ M) (cg.mono tt) (j _ _ (k1 U L)) x3 ((bJ.ev (Ev.of (Nt.of AW))).ev (Ev.of (Nt.of yl))) λx ay b9 H4 J B nd=>(rfl,?_)
 have v8:=j _ _ N;have Y:x≠al:=λz=>by rw[z,v8]at B;cases B
 have rF:=j _ _ (k1 y ht);have AX:x≠t:=λz=>by rw[z,rF]at B;cases B
 have X:=J _ _ v8;have fb:=J _ _ rF;have AY:d≠al:=λz=>by rw[z,N]at u;cases u
 have AZ:d≠t:=λz=>by rw[z,k1 y ht]at u;cases u
 have B0:hd≠t:=λz=>by rw[z,ht]at L;cases L
 show !(t,D,dx,!(fb,I.cls,I.pl,by change 2<1000;decide,?_));rw[zcm];show fin x _ (λb o h1 h2 e=>?_) ?_ zm (by rw[zn y.symm];show X) (d,ay,b9,?_)
 .rw [zn h1];show J _ _ (j _ _ (k1 h2 e))
 .rcases fx B with z|z
  .exact z
  .exact absurd z Y
 .rw [z2l y];show nd.keep (λc hc=>?_) λb ys e=>?_
  .rcases hc with rfl|rfl|rfl
   .rw [zn AX,jA Y]
   .rw [zn B0,jA U]
   .rw [zn AZ,jA AY]
  .rw [zn (λz=>by rw[z,fb]at e;cases e),jA (λz=>by rw[z,X]at e;cases e)];show e
structure Step(th:Str->List Str)(C:AD)(H H':Hp)(al:AD):Prop where
 ev:Ev th C (hid H al) (hid H' al)
 tb:∀b ps,H b=AA (.tbl ps)->H' b=AA (.tbl ps)
def Step.refl:Step th C H H al:=(Ev.refl _,λv v e=>e)
theorem Step.trans(a:Step th C H H1 al)(b:Step th C H1 H2 al):Step th C H H2 al:=(a.ev.trans b.ev,λx ps e=>b.tb x ps (a.tb x ps e))
theorem Step.same(a:zw H H1):Step th C H H1 al:=(Ev.of (Nt.of (z0U a)),λv v e=>a _ _ e)
theorem Step.ls(a:Step th C H H1 al)(h:Ls τ H)(ha:H al=AA (.lst us)):Ls τ H1:=
 h.tk a.tb λb o u e=>yl _ _ (a.ev.t b _ (by rw[jA λz=>by rw[z,ha]at e;cases e];show e) (λv z=>by cases z) λv v v z=>by cases z)
theorem TrAt.same{c:List (Qn×Nat)}{v:V}(h:TrAt th C D H t al c q v dx vs)(s:zw H H1):TrAt th C D H1 t al c q v dx vs:=
 (s _ _ h.me,s _ _ h.ab,h.up.ev (Ev.of (Nt.of (z0U s))),h.pl.ev (Ev.of (Nt.of (z0U s))))
theorem TrAt.ne{c:List (Qn×Nat)}{v:V}(h:TrAt th C D H t al c q v dx vs):t≠al:=λz=>by
 have:=h.me;rw[z,h.ab]at this;cases this
theorem take_set{ws:List α}{v u:α}(m:u∈(ws.set i v).take (i+1)):u=v\/u∈ws.take i:=by
 rw[qA]at m;rcases wA.mp m with m|m
 .rw [List.take_set_of_le (wy i)]at m;show .inr m
 .by_cases h:i<ws.length
  .rw [w0z h]at m;show .inl (by simpa using m)
  .rw [w1t (by rw[List.length_set];lia)]at m;cases m
theorem z4h{b:AD}{o:HO}(h:hid H al b=AA o):b≠al:=λz=>by rw[z,yI]at h;cases h
theorem zdc{v:V}(h:H t=AA (.ins D dx (trF v al)))(k:∀b o,b≠t->b≠al->H b=AA o->H' b=AA o)(ha:H al=AA (.lst us)):Step th C H H' al:=by
 have kk:∀b o,b≠t->hid H al b=AA o->hid H' al b=AA o:=λb o n e=>by
  have nb:=z4h e;rw[jA nb];show k b o n nb (yl _ _ e)
 show((λb o e u m=>kk b o (λz=>?_) e,λa c ah hd wl qv b e=>(b,kk a _ (λz=>?_) e,.inl rfl)),λb ps e=>k b _ (λz=>?_) (λz=>?_) e)
 .have:=yl _ _ e;rw[z,h]at this;cases this;show m _ _ _ rfl
 .have:=yl _ _ e;rw[z,h]at this
  injection this with this
  injection this with _ _ this
  show z4F _ _ _ _ _ this
 .rw [z,h]at e;cases e
 .rw [z,ha]at e;cases e
theorem z9M{th:Str->List Str}{C:AD}{H:Hp}:∀{a:List Qn} {ws:List V},jV th C H a ws->(∀u∈ws,SetV C H u)->∀k∈a,nf th k
 | [],_,_,_,_,m=>by cases m
 | q::a,_,(v,ws,e,h1,h2),hs,k,m=>by
  subst e;rcases wF.mp m with rfl|m
  .exact(hs v (qI ..)).nf h1
  .exact z9M h2 (λu m=>hs u (q5 _ m)) k m
inductive UnV(C:AD)(H:Hp)(u:V):Prop
 | mk:∀a dx ah hd wl qv,u= .ref a->H a=AA (.ins C dx (jG ah hd wl qv false))->UnV C H u
theorem UnV.not(h:UnV C H u):¬SetV C H u:=by
 rintro⟨a,dx,ah,hd,wl,qv,rfl,e⟩;obtain⟨a',f,c,d,j,i,z,b⟩:=h;cases z;rw[e]at b;unfold jG at b;simp at b
inductive spTurn(C D:AD)(vs:List V)(H:Hp)(Q:VK)(E:XK):Prop
 | mk:∀th tr t al dx c q v us,vs= [.ref t]->TabOk th tr->TrAt th C D H t al c q v dx us->z0j th c q->wfQ th (plug c q)->wt (plug c q)<=8000000->(∀(r:Bool)(H':Hp)(c':List (Qn×Nat))(q':Qn)(v':V)(oF:List V),Step th C H H' al->TrAt th C D H' t al c' q' v' dx oF->z0j th c' q'->((r=true/\One th (plug c q) (plug c' q'))\/(r=false/\plug c' q'=plug c q/\nf th (plug c' q')))->Q (.bl r) H')->spTurn C D vs H Q E
structure TrIn(th:Str->List Str)(C D:AD)(H H1:Hp)(w:Qn)(t al dx:AD)(c:List (Qn×Nat))(q:Qn)(us ws xs:List V)(a ah hd wl bS:AD)(qv:V)(b:Bool)(j:Nat):Prop where
 tr:TrAt th C D H1 t al c q (.ref a) dx us
 ok:z0j th c q
 same:plug c q=w
 step:Step th C H H1 al
 nd:NodeAt th C (hid H1 al) q a ws ah hd wl bS qv b xs
 kd:jV th C (hid H1 al) (kids q) ws
 st:∀u∈ws.take j,SetV C (hid H1 al) u
inductive TurnI(th:Str->List Str)(C D:AD)(H:Hp)(w:Qn)(t al dx:AD)(m:Nat)(σ:St)(H1:Hp):Prop
 | mk:∀c1 q1 dh ws xs a ah hd wl bS qv b j o1 o2 o3,σ= [AA (.ref t),o1,o2,o3]->TrIn th C D H H1 w t al dx c1 q1 dh ws xs a ah hd wl bS qv b j->m=(if b=true then 1 else 2+rest q1 j)+budget c1->TurnI th C D H w t al dx m σ H1
theorem kC:FnScope ["self","place","unsettled","other"] ["self"] (zj yW):=by done
theorem z51(F:Fun K "turn" "Turner.turn" yW f fd)(T:Txt K mg)(M:TxtM K mg)(PK:PC K C)(TK:TC K D)(s:-KnM 3 "go_back" ["self"] (spGoB C D) D)(n:-KnM 1 "go_within" ["self","spot"] (spGoW C D) D)(O:-Kn 9 "turned" ["place"] (spTurned C)):-FnOk CX0 10 f fd ["self"] (spTurn C D):=by
 clear kC F;obtain⟨th,tr,t,al,dx,c,q,v,us,rfl,TT,fc,mG,B2,B3,fin⟩:=h;intro ag A A3 sh hr;show(_,(zc (z8Q (z1w (z1U (zF v0 rfl) (λg=>rfl)) (kh (jj (zF (zF v0 rfl) rfl))))
   (zc (seT 1 kC (zF v0 rfl))
   (zc (z7J (j:=2) rfl kC.nd rfl (w0v rfl) (CompScG.of (sx:=zj yW) (NX:= ["self","place","unsettled","other"]) (xs:= ["spot","inner"]) (fr:= []) (ix:= []) rfl rfl ()) (zdU rfl M.enumerate (zP (zF v1 rfl) zb)) (zeS rfl (CompScG.of (sx:=zj yW) (NX:= ["self","place","unsettled","other"]) (xs:= ["spot","inner"]) (fr:= []) (ix:= []) rfl rfl ()) (by rfl) (by rfl)) (λg g g g g g=>(z2o (kh (jj (z4c (K:=K) rfl v1 rfl))))) (λg g g g g g=>v0))
   (zf (zG (jj (zF v1 rfl))
    (zf (jb (z3u s hr.m v0)))
    (zf (zG (z1U v2 (λg=>rfl))
     (zf (jb (zcc n hr.m v0 (zp (ixL v2 zd) zb))))
     (zc (seT 3 kC (zca O hr.m rfl (za v1 zb)))
     (zc (zG (cmT z6s v3 z1b)
      (zc (z0Q v0 v3 rfl)
      (zf (zt yn)))
      zv)
     (zf (z0Q v1 yn rfl)))))))))))
  (zf (zt yn))),?_)
 generalize hK0:K=K1;generalize hK1:C=C1;generalize hK2:D=D1
 revert D1
 revert C1
 revert K1
 show z6t #[] ?_;obtain⟨va,⟨a0,vd,ve,vg,vh,sP,b0,vi,rfl,oG⟩,vk⟩:=j6.mp fc.pl;show z0D (TurnI th C D H (plug c q) t al dx)
  _ (c,q,us,va,vi,a0,vd,ve,vg,vh,sP,b0,0,AB,AB,AB,rfl,(fc,mG,rfl,.refl,oG,vk,λu m=>by rw[w0O]at m;cases m),rfl) ?_
 rintro m σ H1 ⟨I,B,S,ws,xs,a,ah,hd,wl,bS,qv,b,j,o1,o2,o3,rfl,R,rfl⟩;have me:=yl _ _ R.nd.me;show !(z9L TK R.tr.me (_,.inl (_,SqL.of R.tr.ab,rfl),?_));show(not b,(!(z6c TK R.tr.me (zbN PK me (!(rfl,rfl))))),?_);by_cases hx:S= []/\b=true
 .obtain⟨rfl,rfl⟩:=hx;show ifF (by rfl) ?_;have ec:I= []:=QV.mp (by rw[<-R.tr.up.len];rfl);subst ec;show fin false H1 [] B _ _ R.step R.tr R.ok (.inr (rfl,R.same,R.nd.set rfl))
 show ifT ?_ ?_
 .cases b with
  | false=>simp
  | true=>
   cases S with
   | nil=>show absurd (rfl,rfl) hx
   | cons x r=>simp
 show zcC λZ hN hR=>?_
 show !(z6c TK R.tr.me ?_);have wit:=yl _ _ R.nd.wit;have sE:=R.kd.len;have lk:=z2q B;show !(ky PK me (wl,rfl,(_,SqL.of wit),?_));show zaN (ys:=ws) (λi zs H'=>zw H1 H'/\zs.length<=i/\((zs= []/\∀u∈ws.take i,SetV C (hid H1 al) u)\/∃(k:Nat)(w:V)(r:List V),zs= .int (k:Int)::r/\ws[k]? =AA w/\UnV C (hid H1 al) w/\∀u∈ws.take k,SetV C (hid H1 al) u))
  (zw.refl _,wy _,.inl (rfl,λu m=>by rw[w0O]at m;cases m)) ?_ ?_ ?_
 .rintro i zs H' hi ⟨s',hz,_⟩;show(SqL.of (s' _ _ wit),zH ∅)
 .rintro i y zs H' p hi ⟨s',hz,o⟩ hp;have s2:=s'.trans (zE hp (.tup [.int (i:Int),y]));have cB:i<(kids B).length:=by rw[<-sE];show(we.mp hi).1
  obtain⟨v,hv,pv⟩:=R.kd.at (wb cB);rw[hi]at hv;cases hv;obtain⟨eQ,⟨a2,Y,bo,cM,ci,bT,b2,cV,rfl,J⟩,_⟩:=j6.mp pv;show !(zbN PK (s2 _ _ (yl _ _ J.me)) (!?_));cases b2 with
  | false=>
   show ifT rfl (!(s2,by rw[wg];simp;lia,?_));rcases o with⟨rfl,all⟩|⟨k,w,r,rfl,h1,h2,h3⟩
   .exact .inr (i,_,[],rfl,hi,(a2,ci,Y,bo,cM,bT,rfl,J.me),all)
   .exact .inr (k,w,r++[.int (i:Int)],rfl,h1,h2,h3)
  | true=>
   show ifF rfl (s2,∅,?_);rcases o with⟨rfl,all⟩|⟨k,w,r,rfl,h1,h2,h3⟩
   .refine .inl (rfl,λu m=>?_);rw[qA,hi]at m;rcases wA.mp m with m|m
    .exact all u m
    .rw [show u= .ref a2 by simpa using m];show(a2,ci,Y,bo,cM,bT,rfl,J.me)
   .exact .inr (k,w,r,rfl,h1,h2,h3)
 .rintro zs H' ⟨s',hz,o⟩ np ax;clear np ax H3 n3 x3 np;have s3:=s'.trans n3;have l:=R.tr.same s3;have oH:=s3 _ _ me;have X:Step th C H1 H3 al:=Step.same s3;show !(zbN PK oH (!?_));cases b with
  | true=>
   show ifT rfl ?_;obtain⟨p,i,c2,rfl⟩:∃p i c2,I=(p,i)::c2:=by
    cases I with
    | nil=>show absurd (QV.mp R.tr.up.len,rfl) hx
    | cons x c2=>show(x.1,x.2,c2,rfl)
   obtain⟨pa,pv,eQ,rfl,g9,⟨sQ,⟨a2,Y,bo,cM,ci,bT,b2,cV,rfl,J⟩,mS,aB⟩,B5⟩:=l.up;have i6:=l.ab;rw[QY]at i6;have lp:=mS.len;show !(t,dx,!(l.me,rfl,th,zT p i B,t,dx,al,pa,a2,ci,Y,bo,cM,eQ.reverse,sQ,cV,bT,.ref a,b2,i,rfl,l.me,i6,yl _ _ g9,yl _ _ J.me,(by rw[lp];show R.ok.1),z4h J.wit,z4h J.hds,yl _ _ J.wit,yl _ _ J.ahd,zbM (J.ahx.mono λb xs z=>yl _ _ z),(by rw[R.ok.2.1];show yl _ _ J.hds),(by rw[z21 R.ok.1];show mS.set l.pl),?_));rintro x H4 k4 fx t4 oE ⟨bR,ay,b9,oo⟩;have b7:Step th C H3 H4 al:=zdc l.me k4 i6;have vm:jV th C (hid H4 al) (kids (zT p i B)) (sQ.set i (.ref a)):=by
    rw[z21 R.ok.1];show(mS.set l.pl).ev b7.ev
   show hN _ _ ((2+rest (zT p i B) (i+1))+budget c2,?_,c2,zT p i B,eQ,sQ.set i (.ref a),cV,x,Y,bo,bR,ay,b9,false,i+1,_,_,_,rfl,((t4,oE,B5.ev b7.ev,j6.mpr (_,(x,Y,bo,bR,ay,b9,false,cV,rfl,oo),vm)),R.ok.2.2,R.same,R.step.trans (X.trans b7),oo,vm,λu m=>?_),by simp)
   .rw [zbx R.ok.1]
    change _<1+(2+rest p (i+1)+budget c2)
    lia
   .rcases take_set m with rfl|m
    .exact SetV.ev (th:=th) (X.trans b7).ev (a,bS,ah,hd,wl,qv,rfl,R.nd.me)
    .exact(aB u m).ev b7.ev
  | false=>
   show ifF rfl ?_;show !(_,.inl (_,SqL.of x3,rfl),?_);rcases o with⟨rfl,all⟩|⟨k,w,r,rfl,hk,un,st⟩
   .refine ifF (by rfl) ?_;rw[qP]at all;have hn:=z9M R.kd all;have vp:wfQ th (plug I B):=by rw[R.same];show B2
    have i6:=l.ab;show !(al,_,i6,th,B,_,rfl,z2i R.ok vp,l.pl,λq' e z N s5 ac h5=>?_,λe N s5 h5=>?_)
    .have m5:N t=AA (.ins D dx (trF (.ref a) al)):=s5 t _ (by rw[jA l.ne];show l.me);show !(rfl,!?_);show ifT (by rfl) ?_;show !(!(t,D,dx,!((by rw[zn l.ne];show m5),TK.cls,TK.pl,by change 2<1000;decide,?_)));rw[zcm];have G:hid (upd (upd N al (.lst S.reverse)) t (.ins D dx (trF (.ref z) al))) al=upd N t (.ins D dx (trF (.ref z) al)):=by rw[z2l l.ne,kQ h5]
     have v5:Ev th C (hid H3 al) N:=Ev.of (Nt.of s5);have L:Ev th C N (upd N t (.ins D dx (trF (.ref z) al))):=z6d m5 z4F;have E3:=z5C (z4S (z2i R.ok vp) e).h R.ok;rw[<-R.same]at fin;show hR _ _ (fin true _ I q' (.ref z) S (R.step.trans (X.trans (by rw[G];show v5.trans L,λb ps e=>?_))) (zm,by rw[zn l.ne.symm,zm],by rw[G];show(l.up.ev v5).ev L,by rw[G];show ac.ev L) E3 (.inl (rfl,I,B,q',R.ok,rfl,rfl,e,hn)));have n1:b≠t:=λz=>by rw[z,l.me]at e;cases e
     have n2:b≠al:=λz=>by rw[z,i6]at e;cases e
     rw[zn n1,zn n2];show s5 _ _ (by rw[jA n2];show e)
    .refine !(rfl,!?_);show ifF (by rfl) ?_;have sR:=R.nd.ev (X.ev.trans (Ev.of (Nt.of s5))) (s5 _ _ (z0U s3 _ _ R.nd.me)) (.inl rfl);have fO:a≠al:=z4h R.nd.me;show !(a,C,bS,!((by rw[zn fO];show sR.me),PK.cls,PK.se,by change 5<1000;decide,?_));rw[zgZ];have G:hid (upd (upd N al (.lst S.reverse)) a (.ins C bS (jG ah hd wl qv true))) al=upd N a (.ins C bS (jG ah hd wl qv true)):=by rw[z2l fO,kQ h5]
     have nq:=zgo e hn;have v5:Ev th C (hid H3 al) N:=Ev.of (Nt.of s5);have L:Ev th C N (upd N a (.ins C bS (jG ah hd wl qv true))):=zaK sR nq;have i5:t≠a:=λz=>by
      have:=l.me;rw[z,oH]at this
      injection this with this
      injection this with _ _ this
      show z4F _ _ _ _ _ this.symm
     have m5:N t=AA (.ins D dx (trF (.ref a) al)):=s5 t _ (by rw[jA l.ne];show l.me);show hN _ _ (1+budget I,?_,I,B,S,ws,xs,a,ah,hd,wl,bS,qv,true,j,_,_,_,rfl,((by rw[zn i5,zn l.ne];show m5,by rw[zn fO.symm,zm],by rw[G];show(l.up.ev v5).ev L,by rw[G];show(l.pl.ev v5).ev L),R.ok,R.same,R.step.trans (X.trans (by rw[G];show v5.trans L,λb ps e=>?_)),by rw[G];show sR.ev L zm (.inr nq),by rw[G];show R.kd.ev (X.ev.trans (v5.trans L)),λu m=>by rw[G];show(R.st u m).ev (X.ev.trans (v5.trans L))),by simp)
     .show 1+budget I<2+rest B j+budget I
      lia
     .have n1:b≠a:=λz=>by rw[z,oH]at e;cases e
      have n2:b≠al:=λz=>by rw[z,i6]at e;cases e
      rw[zn n1,zn n2];show s5 _ _ (by rw[jA n2];show e)
   .refine ifT (by rfl) ?_;obtain⟨rL,_⟩:=we.mp hk;have cB:k<(kids B).length:=by rw[<-sE];show rL
    obtain⟨w',vq,pw⟩:=R.kd.at (wb cB);rw[hk]at vq;cases vq;obtain⟨B6,⟨a2,Y,bo,cM,ci,bT,b2,cV,rfl,J⟩,mS⟩:=j6.mp pw;have eb:b2=false:=by
     cases b2 with
     | false=>rfl
     | true=>show absurd (a2,ci,Y,bo,cM,bT,rfl,J.me) un.not
    subst eb;have B7:j<=k:=by
     rcases Nat.lt_or_ge k j with z|z
     .exact absurd (R.st _ (qB (i:=k) (by rw[List.getElem?_take_of_lt z];show hk))) un.not
     .exact z
    have lc:S.length<sizeLine:=by
     have h1:=z5V R.ok;have h2:=z6T (plug I B);have h3:=R.tr.up.len;have h4:wt (plug I B)<=8000000:=by rw[R.same];show B3
     show z3e ∅
    show !(t,dx,!(l.me,rfl,!(zy x3 zL (t,dx,al,a,bS,ah,hd,wl,S.reverse,ws,qv,.ref a2,false,k,rfl,l.me,l.ab,(by rw[w0x];show lc),oH,s3 _ _ wit,z4h R.nd.wit,hk,λp hp=>?_))));have np1:p≠al:=λz=>by rw[z,l.ab]at hp;cases hp
    have np2:p≠t:=λz=>by rw[z,l.me]at hp;cases hp
    have hh:hid H3 al p=none:=z29 hp;have G:hid (upd (upd (upd H3 p (.tup [.ref a,.int (k:Int)])) al (.lst (S.reverse++[.ref p]))) t (.ins D dx (trF (.ref a2) al))) al=upd (upd (hid H3 al) p (.tup [.ref a,.int (k:Int)])) t (.ins D dx (trF (.ref a2) al)):=by rw[z2l l.ne,z26,z2l np1]
    have v5:Ev th C (hid H3 al) (upd (hid H3 al) p (.tup [.ref a,.int (k:Int)])):=Ev.of (Nt.of (zE hh _));have mt:upd (hid H3 al) p (.tup [.ref a,.int (k:Int)]) t=AA (.ins D dx (trF (.ref a) al)):=by rw[zn np2.symm,jA l.ne];show l.me
    have L:=v5.trans (z6d (th:=th) (C:=C) (gs:=trF (.ref a2) al) mt z4F);have v7:=X.ev.trans L;have keep:∀{a' ay dg bf bR:AD} {b9:V} {b':Bool},hid H1 al a'=AA (.ins C ay (jG dg bf bR b9 b'))->upd (upd (hid H3 al) p (.tup [.ref a,.int (k:Int)])) t (.ins D dx (trF (.ref a2) al)) a'=AA (.ins C ay (jG dg bf bR b9 b')):=λ{a' ay dg bf bR b9 b'} e=>by
     have U:=z0U (d:=al) s3 _ _ e;rw[zn λz=>by rw[z,jA l.ne,l.me]at U;injection U with U;injection U with _ _ U;show z4F _ _ _ _ _ U,zn λz=>by rw[z,hh]at U;cases U];show U
    have kq:(kids B)[k]? =AA (kids B)[k]:=wb cB;show hN _ _ ((2+rest (kids B)[k] 0)+budget ((B,k)::I),?_,(B,k)::I,(kids B)[k],.ref p::S,B6,cV,a2,Y,bo,cM,ci,bT,false,0,_,_,_,rfl,((zm,by rw[zn l.ne.symm,zm,QY],?_,by rw[G];show pw.ev v7),zb3 kq R.ok,(zad kq).trans R.same,R.step.trans (X.trans (by rw[G];show L,λb ps e=>?_)),?_,by rw[G];show mS.ev v7,λu m=>by rw[w0O]at m;cases m),by simp)
    .have r1:=z9J kq;have r2:=zda (p:=B) B7;have r3:=zc8 (kids B)[k]
     change 2+rest (kids B)[k] 0+(2+rest B (k+1)+budget I)<2+rest B j+budget I
     lia
    .rw [G];show(p,.ref a,S,rfl,?_,(ws,(a,ah,hd,wl,bS,qv,false,xs,rfl,?_),R.kd.ev v7,λu m=>(st u m).ev v7),l.up.ev L)
     .rw [zn np2,zm]
     .exact R.nd.ev v7 (keep R.nd.me) (.inl rfl)
    .have n1:b≠t:=λz=>by rw[z,l.me]at e;cases e
     have n2:b≠al:=λz=>by rw[z,l.ab]at e;cases e
     have n3:b≠p:=λz=>by rw[z,hp]at e;cases e
     rw[zn n1,zn n2,zn n3];show e
    .rw [G];show J.ev v7 (keep J.me) (.inl rfl)
inductive spTWhole(C D:AD)(vs:List V)(H:Hp)(Q:VK)(E:XK):Prop
 | mk:∀th t al dx c q v us,vs= [.ref t]->TrAt th C D H t al c q v dx us->z0j th c q->(∀(v':V)(H':Hp),zw H H'->QAt H' (plug c q) v'->Q v' H')->spTWhole C D vs H Q E
theorem zbd{th:Str->List Str}:∀{c:List (Qn×Nat)} {q p:Qn} {j i:Nat},z0j th c q->c[j]? =AA (p,i)->i<(kids p).length
 | [],_,_,_,_,_,e=>by cases e
 | (p,i)::c,_,_,0,_,h,e=>by cases e;show h.1
 | (p,i)::c,_,_,j+1,_,h,e=>zbd (j:=j) h.2.2 (by simpa using e)
theorem yu.set:∀{a:List Qn} {vs:List V} {i:Nat} {q:Qn} {v:V},yu H a vs->QAt H q v->yu H (a.set i q) (vs.set i v)
 | [],_,_,_,_,h,_=>by rw[show _= []from h];rfl
 | r::a,_,0,_,v,(u,us,b,h1,h2),h=>by subst b;show(v,us,rfl,h,h2)
 | r::a,_,i+1,_,v,(u,us,b,h1,h2),h=>by subst b;show(u,us.set i v,rfl,h1,h2.set h)
theorem jZ:FnScope ["self","question","over","spot","parts"] ["self"] (zj kJ):=by done
theorem z45(F:Fun K "whole" "Turner.whole" kJ f fd)(T:Txt K mg)(G:PC K C)(S:TC K D):-FnOk CX0 1 f fd ["self"] (spTWhole C D):=by
 clear jZ F;obtain⟨th,t,al,dx,c,q,v,us,rfl,d,mG,fin⟩:=(h);obtain⟨va,⟨a0,vd,ve,vg,vh,sP,b0,vi,rfl,U⟩,vk⟩:=(j6.mp d.pl);have B8:=yl _ _ U.me;have lu:=d.up.len;intro ag A A3 sh hr;show(_,(zc (seT 1 jZ (zF (zF v0 rfl) rfl))
  (zc (foR (zfk rfl T.reversed (zP (zF v0 rfl) zb)) (zb7 rfl (z2V (gnM 2 jZ) (z2V (gnM 3 jZ) z9Q)))
   (zc (yb (j:=4) rfl jZ.nd rfl (w0v rfl) (CompSc.of (sx:=zj kJ) (NX:= ["self","question","over","spot","parts"]) (fr:= []) (ix:= []) rfl rfl ()) (zW (zF v2 rfl)) (λm m m m m m=>jm) (λm m m m m m=>(z4c (K:=K) rfl v0 rfl)))
   (zc (z8K v1 (z8W v4 v3 set_list))
   (zf (seT 1 jZ (zq z9m (zF v2 rfl) (jq z1c rfl T.tuple w0e (za v4 zb))))))))
  (zf (zt v1)))),?_)
 generalize hK0:K=K1;generalize hK1:C=C1;generalize hK2:D=D1
 revert D1
 revert C1
 revert K1
 show z6t #[] ?_;show !(z6c S d.me (zed G B8 ?_));show !(z9L S d.me (al,!(SqL.of d.ab,?_)));show zdJ (xs:=us.reverse) (λi σ H'=>∃u n s B,σ= [AA (.ref t),AA u,n,s,B]/\zw H H'/\QAt H' (plug (c.take i) q) u) (sP,AB,AB,AB,rfl,zw.refl _,U.qst.same yl) ?_ ?_ ?_
 .rintro i σ H' _ ⟨u,n,s,B,rfl,s',_⟩;show SqL.of (s' _ _ d.ab)
 .rintro i x σ H' hi ⟨u,n,s,B,rfl,s',r⟩;rw[List.reverse_reverse]at hi;obtain⟨p,k,pa,pv,hc,rfl,g9,B9⟩:=(d.up.at hi);have hk:=zbd mG hc;obtain⟨ws,⟨a,ah,hd,wl,bS,qv,b,xs,rfl,nd⟩,kd⟩:=(j6.mp B9);have lo:zw (hid H al) H':=yl.trans s';have me:=lo _ _ nd.me;have wit:=lo _ _ nd.wit;have X:=kd.len;have lk:=z2q p;have Ba:=kd.ev (Ev.of (Nt.of lo));show(pa,!(SqT.of (lo _ _ g9),rfl,_,[_],rfl,_,[],rfl,rfl,?_));show !(ky G me (wl,rfl,(_,SqL.of wit),?_));show je (xs:=ws) (λi ys H2=>H2=H'/\ys.length=i/\yu H' ((kids p).take i) ys) (rfl,rfl,by rw[w0O];rfl) ?_ ?_ ?_
  .rintro i ys H2 hi ⟨rfl,L,_⟩;show(SqL.of wit,zH ∅)
  .rintro i y ys H2 hi ⟨rfl,L,I⟩;have R:i<(kids p).length:=by rw[<-X];show(we.mp hi).1
   obtain⟨v,O,pv⟩:=(Ba.at (wb R));rw[hi]at O;cases O;obtain⟨us,⟨a2,cC,bo,cM,ci,bT,b2,cV,rfl,M⟩,_⟩:=(j6.mp pv);show !(zed G M.me (rfl,by rw[wg,L];rfl,?_));rw[qA,wb R];show I.app (_,[],rfl,M.qst,rfl)
  .rintro ys H2 ⟨rfl,L,I⟩ np Y;rw[X,qP]at I;clear np Y H3 n3 x3 np;show !(!(!(np,_,_,k,rfl,rfl,x3,z9p ∅,?_)));have l:zw H2 (upd H3 np (.lst (ys.set k u))):=λb o e=>by rw[zn λz=>by rw[z,Y]at e;cases e];show n3 _ _ e
   have N:upd H3 np (.lst (ys.set k u)) np=AA (.lst (ys.set k u)):=zm;generalize upd H3 np (.lst (ys.set k u))=H4 at l N ⊢;have Bb:=(I.set (i:=k) r).same l;show !(yR G (l _ _ me) (!(np,!(.inl (SqL.of N,λtp aS=>?_)))));clear tp aS H5 n5 x5 tp;have J:=l.trans n5;have FJ:ys.length=(kids p).length:=by lia
   have cg:z04 H5 (zT p k (plug (c.take i) q)) xs:=zbM (nd.ahx.mono λb xs z=>J _ _ (lo _ _ z));show(ah,tp,xs,!(rfl,SqT.of (J _ _ (lo _ _ nd.ahd)),SqT.of x5,(z4o nd.ahx).1,?_,λe=>?_,λne p' Z=>?_))
   .have:=(z4o nd.ahx).2;rw[List.length_set];show zR ∅
   .have:=QG List.length e;rw[List.length_set]at this;have:ys.length=0:=this
    lia
   .clear p' Z H6 n6 x6 p';have s6:=J.trans n6;show(.ref p',_,_,!(s'.trans s6,?_));have et:c.take (i+1)=c.take i++[(p,k)]:=by rw[qA,hc];rfl
    rw[et,z63];show zfb (cg.mono λb xs z=>n6 _ _ z) ?_ x6;rw[z21 hk];show Bb.same (n5.trans n6)
 .rintro σ H' ⟨u,n,s,B,rfl,s',r⟩;rw[w0x,lu,qP]at r;show !(fin u H' s' r)
inductive spTurnings(C:AD)(Ce:Er->AD)(τ:Nat->AD)(vs:List V)(H:Hp)(Q:VK)(E:XK):Prop
 | mk:∀th tr q v tp,vs= [.ref tp,v]->TabOk th tr->FourAt th tr H tp->QAt H q v->(∀r∈post q,kj th r)->(post q).length<=8000000->Ls τ H->((post q).findSome? (jK th)=AB->wfQ th q/\wt q<=4000)->((post q).findSome? (jK th)=AB->∀(l:AD)(H':Hp),Ev th C H H'->Ls τ H'->Q (.ref l) H')->(∀e,(post q).findSome? (jK th)=AA e->∀H',Nt H H'->Ls τ H'->E (.ref (Ce e)) AB H')->spTurnings C Ce τ vs H Q E
theorem z20:FnScope ["tables","question","turner","questions"] ["tables","question"] (zj z2D):=by done
theorem z7R(F:Fun K "turnings" "turnings" z2D f fd)(T:Txt K mg)(p:-KnCX 10 "Turner" ["self","tables","question"] (spTInit C D Ce τ) D)(j:-KnM 10 "turn" ["self"] (spTurn C D) D)(i:-KnM 1 "whole" ["self"] (spTWhole C D) D):-FnOk (CXR P w) 12 f fd ["tables","question"] (spTurnings C Ce τ):=by
 show F.okX z20 (λvs H Q E h=>?_) (λag A A3 s H vs Q E R h=>?_)
 .obtain⟨th,tr,q,v,tp,rfl,_⟩:=h
  rfl
 obtain⟨th,tr,q,v,tp,rfl,TT,h4,hq,lm,hsz,hL,ok,fin,bad⟩:=(h);show(_,(zc (seT 2 z20 (z7w p jg R.m rfl (za v0 (za v1 zb))))
  (zc (seT 3 z20 (zD (za v1 zb)))
  (zc (z4P z2b (jj (z82 j R.m v2))
   (zf (jb (apP v3 (zK (z82 i R.m v2) zb)))))
  (zf (zt v3))))),?_)
 show !(!(λx dx U fM aF=>?_));have y:zw H (upd (upd H dx (.own x)) x (.ins D dx [])):=λb o e=>by
  have b1:b≠x:=λz=>by rw[z,U]at e;cases e
  have b2:b≠dx:=λz=>by rw[z,fM]at e;cases e
  rw[zn b1,zn b2];show e
 show(th,tr,q,v,x,dx,tp,rfl,zm,h4.same y,hq.same y,lm,hsz,hL.same y,λe0 v1 al H1 I N t1=>(rfl,?_),λe M H1 I N=>bad e M H1 ((Nt.of y).trans I) N);obtain⟨wf,hw⟩:=ok e0;have M:Ev th C H (hid H1 al):=(λb o e n r=>I b o (λz=>by rw[z,U]at e;cases e) (y _ _ e) n,λa ay ah hd wl qv b e=>(b,I a _ (λz=>by rw[z,U]at e;cases e) (y _ _ e) (λr z=>by cases z),.inl rfl));show !((yx rfl),λl hl=>?_);show z1S ?_;dsimp only;show z3j ?_;show z0D (λm σ H2=>∃c t v2 ws us,σ= [AA (.ref tp),AA v,AA (.ref x),AA (.ref l)]/\H2 l=AA (.lst us)/\TrAt th C D (hid H2 l) x al c t v2 dx ws/\z0j th c t/\Eqv th q (plug c t)/\wt (plug c t)<=wt q/\us.length+nu th (plug c t)<=nu th q+1/\Ev th C H (hid (hid H2 l) al)/\Ls τ (hid H2 l)/\m=nu th (plug c t))
  _ ([],q,v1,[],[v],rfl,zm,by rw[kQ hl];show t1,trivial,Eqv.refl wf,wy _,by change 1+nu th q<=_;lia,by rw[kQ hl];show M,by rw[kQ hl];show N,rfl) ?_
 intro m σ H2 zz;obtain⟨c,t,v2,ws,us,rfl,l2,S,h9,J,w2,n2,e2,O,rfl⟩:=(zz);show !(x,dx,_,l,us,rfl,yl _ _ S.me,rfl,l2,th,tr,x,al,dx,c,t,v2,ws,rfl,TT,S,h9,J.wf,∅,λr H3 c' q' v' i4 st X B o L=>!?_);have Y:=e2.trans st.ev;have Z:=st.ls O S.ab;have u3:hid (upd H3 l (.lst us)) l=H3:=kQ L;rcases o with⟨rfl,on⟩|⟨rfl,ep,Bc⟩
 .refine ifT rfl ?_;show(_,λσ' H' z=>z,?_);show !(.inl (rfl,_,SqL.of zm),!(x,dx,_,l,us,rfl,zE L _ _ _ X.me,rfl,zm,th,x,al,dx,c',q',v',i4,rfl,by rw[u3];show X,B,λv4 H4 G gX u=>?_));rw[u3]at G;have d:=on.dn J.wf;show(l,~~~(zm,by
   have z1:=zgc (th:=th) q;have z2:wt q*wt q<=4000*4000:=Qk hw hw;have z3:AI=16777216:=Qp;have z4:=d.nu
   lia,?_))
  show(_,d.nu,c',q',v',i4,us++[v4],rfl,zm,?_,B,J.trans (on.eqv J.wf),wG d.wt w2,by rw[wg,wZ];have:=d.nu;lia,?_,?_,rfl)
  .rw [z26,kQ u];show X.same G
  .rw [z26,kQ u];show Y.trans (Ev.of (Nt.of (z0U G)))
  .rw [z26,kQ u];show Z.same G
 .refine ifF rfl ?_;show !(fin e0 l _ (Y.trans (Ev.of (Nt.of (yl.trans (zE L _))))) (Z.same (zE L _)))
inductive spLast(C:AD)(Ce:Er->AD)(τ:Nat->AD)(vs:List V)(H:Hp)(Q:VK)(E:XK):Prop
 | mk:∀th tr q v tp,vs= [.ref tp,v]->TabOk th tr->FourAt th tr H tp->QAt H q v->(∀r∈post q,kj th r)->(post q).length<=8000000->Ls τ H->((post q).findSome? (jK th)=AB->wfQ th q/\wt q<=8000000)->((post q).findSome? (jK th)=AB->∀(q':Qn)(v':V)(H':Hp),Eqv th q q'->wt q'<=wt q->QAt H' q' v'->Ev th C H H'->Ls τ H'->Q v' H')->(∀e,(post q).findSome? (jK th)=AA e->∀H',Nt H H'->Ls τ H'->E (.ref (Ce e)) AB H')->spLast C Ce τ vs H Q E
theorem z1K:FnScope ["tables","question","turner"] ["tables","question"] (zj z0L):=by done
theorem z42(F:Fun K "last_turning" "last_turning" z0L f fd)(T:Txt K mg)(l:-KnCX 10 "Turner" ["self","tables","question"] (spTInit C D Ce τ) D)(j:-KnM 10 "turn" ["self"] (spTurn C D) D)(i:-KnM 1 "whole" ["self"] (spTWhole C D) D):-FnOk (CXR P w) 12 f fd ["tables","question"] (spLast C Ce τ):=by
 show F.okX z1K (λvs H Q E h=>?_) (λag A A3 s H vs Q E L h=>?_)
 .obtain⟨th,tr,q,v,tp,rfl,_⟩:=h
  rfl
 obtain⟨th,tr,q,v,tp,rfl,TT,h4,hq,lm,hsz,hL,ok,fin,bad⟩:=(h);show(_,(zc (seT 2 z1K (z7w l jg L.m rfl (za v0 (za v1 zb))))
  (zc (z4P z2b (jj (z3u j L.m v2))
   (zf zdy))
  (zf (zt (z3u i L.m v2))))),?_)
 show !(!(λx dx N fM aF=>?_));have t:zw H (upd (upd H dx (.own x)) x (.ins D dx [])):=λb o e=>by
  have b1:b≠x:=λz=>by rw[z,N]at e;cases e
  have b2:b≠dx:=λz=>by rw[z,fM]at e;cases e
  rw[zn b1,zn b2];show e
 show(th,tr,q,v,x,dx,tp,rfl,zm,h4.same t,hq.same t,lm,hsz,hL.same t,λe0 v1 al H1 B I t1=>(rfl,?_),λe G H1 B I=>bad e G H1 ((Nt.of t).trans B) I);obtain⟨wf,hw⟩:=ok e0;have G:Ev th C H (hid H1 al):=(λb o e n r=>B b o (λz=>by rw[z,N]at e;cases e) (t _ _ e) n,λa ay ah hd wl qv b e=>(b,B a _ (λz=>by rw[z,N]at e;cases e) (t _ _ e) (λr z=>by cases z),.inl rfl));show z1S ?_;dsimp only;show z3j ?_;show z0D (λm σ H2=>∃c p v2 us,σ= [AA (.ref tp),AA v,AA (.ref x)]/\TrAt th C D H2 x al c p v2 dx us/\z0j th c p/\Eqv th q (plug c p)/\wt (plug c p)<=wt q/\Ev th C H (hid H2 al)/\Ls τ H2/\m=nu th (plug c p))
  _ ([],q,v1,[],rfl,t1,trivial,Eqv.refl wf,wy _,G,I,rfl) ?_
 intro m σ H2 zz;obtain⟨c,p,v2,us,rfl,M,h9,u,w2,e2,J,rfl⟩:=(zz);show !(x,dx,!(M.me,rfl,th,tr,x,al,dx,c,p,v2,us,rfl,TT,M,h9,u.wf,wG w2 hw,λr H3 c' q' v' Z st O y o=>!?_));have Y:=st.ls J M.ab;have X:=e2.trans st.ev;rcases o with⟨rfl,on⟩|⟨rfl,ep,Bc⟩
 .refine ifT rfl ?_;show(_,λσ' H' z=>z,?_);have d:=on.dn u.wf;show(_,d.nu,c',q',v',Z,rfl,O,y,u.trans (on.eqv u.wf),wG d.wt w2,X,Y,rfl)
 .refine ifF rfl ?_;show !(x,dx,!(O.me,rfl,th,x,al,dx,c',q',v',Z,rfl,O,y,λv4 U R S=>?_));have e4:Ev th C H U:=X.trans (Ev.of (Nt.of (yl.trans R)));rw[ep]at S;show fin e0 _ v4 U u w2 S e4 (Y.same R)
theorem TabAt.ev{v:V}(h:TabAt th tr H v n)(k:Ev th C H H'):TabAt th tr H' v n:=by
 obtain⟨p,c,rp,rs,rfl,h1,d,a,b⟩:=h;show(p,c,rp,rs,rfl,k.tup h1,k.lst d,(k.lst a.1,λr m=>((a.2 r m).1,k.lst (a.2 r m).2)),b)
theorem FourAt.ev(h:FourAt th tr H p)(k:Ev th C H H'):FourAt th tr H' p:=by
 obtain⟨v0,v1,v2,v3,h0,a,b,c,d⟩:=h;show(v0,v1,v2,v3,k.lst h0,a.ev k,b.ev k,c.ev k,d.ev k)
theorem zeV(T:TabOk th tr)(w:wfQ th q):(post q).findSome? (jK th)=none:=List.findSome?_eq_none_iff.mpr λr m=>(z4x T (z47 w r m)).1
def zfd(T:TabOk th tr)(w:wfQ th q):∀r∈post q,kj th r:=λr m=>(z4x T (z47 w r m)).2
inductive spClever(C:AD)(Ce:Er->AD)(τ:Nat->AD)(vs:List V)(H:Hp)(Q:VK)(E:XK):Prop
 | mk:∀th tr q v tp,vs= [.ref tp,v]->TabOk th tr->FourAt th tr H tp->QAt H q v->(∀r∈post q,kj th r)->(post q).length<=8000000->Ls τ H->((post q).findSome? (jK th)=AB->wfQ th q/\wt q<=8000000/\bd q<=900000)->((post q).findSome? (jK th)=AB->∀(v':V)(H':Hp),Ev th C H H'->Ls τ H'->Q v' H')->(∀e,(post q).findSome? (jK th)=AA e->∀H',Nt H H'->Ls τ H'->E (.ref (Ce e)) AB H')->spClever C Ce τ vs H Q E
theorem z3o:FnScope ["tables","question"] ["tables","question"] (zj z0s):=by done
theorem z3p(F:Fun K "clever_answer" "clever_answer" z0s f fd)(T:Txt K mg)(a:-KnX 11 "plain_answer" ["tables","question"] (spPlain K Ce τ))(c:-KnX 12 "last_turning" ["tables","question"] (spLast C Ce τ)):-FnOk (CXR P w) 13 f fd ["tables","question"] (spClever C Ce τ):=by
 show F.okX z3o (λvs H Q E h=>?_) (λag A A3 s H vs Q E j h=>?_)
 .obtain⟨th,tr,q,v,tp,rfl,_⟩:=h
  rfl
 obtain⟨th,tr,q,v,tp,rfl,TT,o,B,lm,hsz,x,ok,fin,bad⟩:=h;show(_,(zf (zt (jo a jg j.m rfl (za v0 (zK (jo c jg j.m rfl (za v0 (za v1 zb))) zb))))),?_);show !(!(!(th,tr,q,v,tp,rfl,TT,o,B,lm,hsz,x,λd=>((ok d).1,(ok d).2.1),λd q' z H' i D t n u=>?_,bad)));obtain⟨wf,y,r⟩:=ok d;show(th,tr,q',z,tp,rfl,TT,o.ev n,t,zfd TT i.wf,wG (z6T q') (wG D y),u,λk=>(i.wf,by rw[i.b];show r),λk v2 H2 p Lake=>fin d v2 H2 (n.trans (Ev.of p)) Lake,λe l=>by rw[zeV TT i.wf]at l;cases l)
def Fn(th:Str->List Str)(q:Qn):Prop:=∀r∈post q,jK th r=AB/\kj th r
structure Du(th:Str->List Str)(q:Qn)(e:Er)(n:Nat):Prop where
 e:(post q).findSome? (jK th)=AA e
 l:∀r∈post q,kj th r
 n:(post q).length<=n
section
variable{k k2:Qn}{e:Er}{n m:Nat}
theorem Fn.ev(h:Fn th q):(post q).findSome? (jK th)=none:=List.findSome?_eq_none_iff.mpr λr m=>(h r m).1
theorem Fn.lm(h:Fn th q):∀r∈post q,kj th r:=λr m=>(h r m).2
theorem Fn.up1(a:kids q= [k])(h:Fn th k)(e:jK th q=AB)(l:kj th q):Fn th q:=λr m=>by
 rw[jP,a]at m;rcases wA.mp m with m|m
 .exact h r (by simpa using m)
 .rw [wm.mp m];show(e,l)
theorem zcj(a:kids q= [k])(h:∀r∈post k,kj th r)(l:kj th q):∀r∈post q,kj th r:=λr m=>by
 rw[jP,a]at m;rcases wA.mp m with m|m
 .exact h r (by simpa using m)
 .rw [wm.mp m];show l
theorem z6k(a:kids q= [k,k2])(h:∀r∈post k,kj th r)(g:∀r∈post k2,kj th r)(l:kj th q):∀r∈post q,kj th r:=λr m=>by
 rw[jP,a]at m;rcases wA.mp m with m|m
 .have m:r∈post k++(post k2++[]):=m;rcases wA.mp m with m|m
  .exact h r m
  .exact g r (by simpa using m)
 .rw [wm.mp m];show l
theorem zel(a:kids q= [k]):(post q).findSome? (jK th)=((post k).findSome? (jK th)).or (jK th q):=by
 rw[jP,a]
 change((post k++[])++[q]).findSome? _=_
 rw[w03,List.findSome?_append,List.findSome?_singleton]
theorem zbG(a:kids q= [k,k2]):(post q).findSome? (jK th)=((post k).findSome? (jK th)).or (((post k2).findSome? (jK th)).or (jK th q)):=by
 rw[jP,a]
 change((post k++(post k2++[]))++[q]).findSome? _=_
 rw[w03,w0p,List.findSome?_append,List.findSome?_append,List.findSome?_singleton]
theorem z9X(a:kids q= [k]):(post q).length=(post k).length+1:=by rw[jP,a];simp
theorem zba(a:kids q= [k,k2]):(post q).length=(post k).length+(post k2).length+1:=by rw[jP,a];simp;lia
theorem Du.top1(a:kids q= [k])(h:Fn th k)(b:(post k).length<=n)(l:kj th q)(z:jK th q=AA e):Du th q e (n+1):=(by rw[zel a,h.ev,z];rfl,zcj a h.lm l,by rw[z9X a];lia)
theorem Du.top2(a:kids q= [k,k2])(h:Fn th k)(g:Fn th k2)(b:(post k).length<=n)(c:(post k2).length<=m)(l:kj th q)(z:jK th q=AA e):Du th q e (n+m+1):=(by rw[zbG a,h.ev,g.ev,z];rfl,z6k a h.lm g.lm l,by rw[zba a];lia)
theorem Du.in1(a:kids q= [k])(h:Du th k e n)(l:kj th q):Du th q e (n+1):=(by rw[zel a,h.e];rfl,zcj a h.l l,by rw[z9X a];have:=h.n;lia)
theorem Du.left(a:kids q= [k,k2])(h:Du th k e n)(g:∀r∈post k2,kj th r)(b:(post k2).length<=m)(l:kj th q):Du th q e (n+m+1):=(by rw[zbG a,h.e];rfl,z6k a h.l g l,by rw[zba a];have:=h.n;lia)
theorem Du.right(a:kids q= [k,k2])(g:Fn th k)(b:(post k).length<=m)(h:Du th k2 e n)(l:kj th q):Du th q e (m+n+1):=(by rw[zbG a,g.ev,h.e];rfl,z6k a g.lm h.l l,by rw[zba a];have:=h.n;lia)
theorem Du.up(h:Du th q e n)(g:n<=m):Du th q e m:=(h.e,h.l,wG h.n g)
end
def zfV(T:TabOk th tr)(w:wfQ th q):Fn th q:=λr m=>z4x T (z47 w r m)
noncomputable def zbI:Er->Str
 | .col=>"no column"
 | .tab=>"no table"
 | .two=>"two columns"
 | .alike=>"not alike"
inductive It(th:Str->List Str)(H:Hp)(n:Nat)(x:V):Prop
 | mk:∀p v q e,x= .ref p->H p=AA (.tup [v,.str (zbI e)])->QAt H q v->Du th q e n->It th H n x
structure Ask(th:Str->List Str)(q:Qn)(one:Str):Prop where
 f:Fn th q
 m:one∈ze th q
 z:(("zz":Str))∉ze th q
 x:one≠"x"
 y:one≠"y"
 l:(ze th q).length<=100
 zl:(th "zz").length<=100
 ol:one.length<=1000
section
variable{one:Str}(A:Ask th q one)
include A
theorem Ask.nz:Nm ["zz"] (ze th q):=λn m=> .inr (by rw[wm.mp m];decide)
def Ask.nc:¬∀n∈ [("zz":Str)],n∈ze th q:=λh=>A.z (h _ (wm.mpr rfl))
theorem Ask.nm(h:∀n∈ns,n=one\/n="zz"):Nm ns (ze th q):=λn m=>(h n m).elim (λe=> .inl (by rw[e];show A.m)) λe=> .inr (by rw[e];decide)
def Ask.no(h:("zz":Str)∈ns):¬∀n∈ns,n∈ze th q:=λg=>A.z (g _ h)
theorem Ask.in(h:∀n∈ns,n=one):∀n∈ns,n∈ze th q:=λn m=>by rw[h n m];show A.m
theorem Ask.w1:Du th (.pick (.no (.less (.nm "zz") (.nu 1))) q) .col ((post q).length+1):=Du.top1 (k:=q) rfl A.f (wy _) ((),A.nm (by simp[Cond.cols,Side.cols])) (z01 (A.no (by simp[Cond.cols,Side.cols])))
def Ask.bad:Du th (.sort "zz" q) .col ((post q).length+1):=Du.top1 (k:=q) rfl A.f (wy _) A.nz (z01 A.nc)
theorem Ask.w3:Du th (.cols [one,"zz"] q) .col ((post q).length+1):=Du.top1 (k:=q) rfl A.f (wy _) (by change 2<=1000;decide,A.nm (by simp)) (z01 (A.no (by simp)))
omit A in
theorem z2Y:Du th (.table "zz") .tab 1:=(by
 have h:jK th (.table "zz")=AA .tab:=wW (t:=AB) (show("zz":Str)∉tabs by decide)
 change(List.findSome? _ [Qn.table "zz"])=_
 rw[List.findSome?_singleton,h],λr m=>by rw[show r= .table "zz" from wm.mp m];show .inr (),wy _)
theorem Ask.w5:Du th (.cols [one,one] q) .two ((post q).length+1):=Du.top1 (k:=q) rfl A.f (wy _) (by change 2<=1000;decide,A.nm (by simp)) ((jQ (A.in (by simp))).trans (z1Z (by simp)))
theorem Ask.w6:Du th (.cols [one,one,"zz"] q) .col ((post q).length+1):=Du.top1 (k:=q) rfl A.f (wy _) (by change 3<=1000;decide,A.nm (by simp)) (z01 (A.no (by simp)))
theorem Ask.w7:Du th (.group one "zz" "x" "y" q) .col ((post q).length+1):=Du.top1 (k:=q) rfl A.f (wy _) (A.nm (by simp)) (z01 (A.no (by simp)))
theorem Ask.w8:Du th (.group one one "x" "x" q) .two ((post q).length+1):=Du.top1 (k:=q) rfl A.f (wy _) (A.nm (by simp)) ((jQ (A.in (by simp))).trans (z1Z (by simp)))
theorem Ask.w9:Du th (.group one one one "x" q) .two ((post q).length+1):=Du.top1 (k:=q) rfl A.f (wy _) (A.nm (by simp)) ((jQ (A.in (by simp))).trans (z1Z (by simp)))
theorem Ask.w10:Du th (.group "zz" one "x" "x" q) .col ((post q).length+1):=Du.top1 (k:=q) rfl A.f (wy _) (A.nm (by simp)) (z01 (A.no (by simp)))
theorem Ask.l2:(ze th q++ze th q).length<=1000:=by rw[wg];have:=A.l;lia
def Ask.w11:Du th (.pair q q) .two ((post q).length+(post q).length+1):=Du.top2 (k:=q) (k2:=q) rfl A.f A.f (wy _) (wy _) A.l2 (z1Z λnd=>(QN.mp nd).2.2 one A.m one A.m rfl)
theorem Ask.lz:(ze th q++th "zz").length<=1000/\(th "zz" ++ ze th q).length<=1000:=by rw[wg,wg];have:=A.l;have:=A.zl;lia
def Ask.w12:Du th (.pair (.sort "zz" q) (.table "zz")) .col ((post q).length+1+1+1):=Du.left (k:= .sort "zz" q) (k2:= .table "zz") (n:=(post q).length+1) (m:=1) rfl A.bad z2Y.l (wy _) A.lz.1
def Ask.w13:Du th (.pair (.table "zz") (.sort "zz" q)) .tab (1+((post q).length+1)+1):=Du.left (k:= .table "zz") (k2:= .sort "zz" q) rfl z2Y A.bad.l A.bad.n A.lz.2
def Ask.w14:Du th (.both q (.sort "zz" q)) .col ((post q).length+((post q).length+1)+1):=Du.right (k:=q) (k2:= .sort "zz" q) rfl A.f (wy _) A.bad trivial
theorem Ask.w15:Du th (.join one "zz" q q) .col ((post q).length+(post q).length+1):=Du.top2 (k:=q) (k2:=q) rfl A.f A.f (wy _) (wy _) (A.l2,A.nm (by simp),A.nz) ((jQ (A.in (by simp))).trans (z01 A.nc))
theorem Ask.w16:Du th (.join "zz" one q (.table "zz")) .tab ((post q).length+1+1):=Du.right (k:=q) (k2:= .table "zz") rfl A.f (wy _) z2Y (A.lz.1,A.nz,λn m=> .inr (by rw[wm.mp m];show A.ol))
theorem Ask.grp:Fn th (.group one one "x" "y" q):=Fn.up1 (k:=q) rfl A.f ((jQ (A.in (by simp))).trans (z1h (by have:=A.x;have:=A.y;simp;show((A.x,A.y),())))) (A.nm (by simp))
theorem Ask.colx:Fn th (.cols ["x"] (.group one one "x" "y" q)):=Fn.up1 (k:= .group one one "x" "y" q) rfl A.grp ((jQ (z1x (by simp[ze]))).trans (z1h (by simp))) (by change 1<=1000;decide,Nm.of (z1x (by simp[ze])))
theorem Ask.w17:Du th (.both q (.cols ["x"] (.group one one "x" "y" q))) .alike ((post q).length+((post q).length+2)+1):=Du.top2 (k:=q) (k2:= .cols ["x"] (.group one one "x" "y" q)) rfl A.f A.colx (wy _) (by rw[z9X (k:= .group one one "x" "y" q) rfl,z9X (k:=q) rfl];show wy _) trivial (wW λz=>A.x (wm.mp ((show ze th q=(["x"]:List Str)from z) ▸ A.m)))
theorem Ask.w18:Du th (.pick (.less (.nm "zz") (.nu 1)) (.table "zz")) .tab 2:=Du.in1 (k:= .table "zz") rfl z2Y ((),λn m=> .inr (by rw[show n="zz" by simpa [Cond.cols,Side.cols]using m];decide))
end
theorem It.same{n:Nat}{x:V}(h:It th H n x)(s:zw H H'):It th H' n x:=by
 obtain⟨p,v,q,e,rfl,h1,h2,a⟩:=h;show(p,v,q,e,rfl,s _ _ h1,h2.same s,a)
inductive spWrong(K:W.Frag)(vs:List V)(H:Hp)(Q:VK)(E:XK):Prop
 | mk:∀th q qv hp turn one hs,vs= [qv,.ref hp,.int turn]->QAt H q qv->H hp=AA (.lst ((ze th q).map V.str))->ze th q=one::hs->Ask th q one->(∀(x:V)(H':Hp),zw H H'->It th H' (2*(post q).length+10) x->Q x H')->spWrong K vs H Q E
local macro_rules | `(tactic| walk_at "m2")=>`(tactic| (rintro _ G ⟨pm,aa,rfl,s,xm,al,lm⟩;replace hq:=hq.same s;replace hb:=hb.same s;replace hn:=hn.same s;(try replace ho:=ho.same s);replace g0:=g0.trans s;first | refine z2v [AA qv,AA (.ref hp),AA (.int turn),AA (.str one),AA vb,AA vn,AA (.ref pm),AB] rfl ?_ | refine z2v [AA qv,AA (.ref hp),AA (.int turn),AA (.str one),AA vb,AA vn,AA (.ref pm),AA vo] rfl ?_))
theorem zJ:FnScope ["_law_asked","_law_heads","_law_turn","_law_one","_law_bad","_law_none","_law_menu","_law_other"] ["_law_asked","_law_heads","_law_turn"] (zj z1E):=by done
theorem z5x(F:Fun K "_law_wrong" "_law_wrong" z1E f fd)(T:Txt K mg):-FnOk CX0 1 f fd ["_law_asked","_law_heads","_law_turn"] (spWrong K):=by
 clear zJ F;obtain⟨th,q,qv,hp,turn,one,hs,rfl,hq,hh,oI,Ak,fin⟩:=h;have tl:∀(x:Nat),x<=20->x<=sizeLine:=λx h=>zR ∅
 intro ag A A3 sh hr;show(_,(zc (seT 3 zJ (ixL v1 zd))
  (zc (seT 4 zJ (zu (zh zg (zh zg (za v0 zb)))))
  (zc (seT 5 zJ (zu (zh zg (zh zg zb))))
  (zc (seT 6 zJ (zD (zA (zu (zA (zu (zh zg (zA (zu (zh zg (zA (zu (zh zg (zh zg (zh zd zb)))) zb))) (za v0 zb)))) (zh zg zb))) (zA (zu (za v4 (zh zg zb))) zb))))
  (zc (seT 6 zJ (zq ju (pv 6) (zD (zA (zu (zA (zu (zh zg (zA (zu (za v3 (zh zg zb))) (za v0 zb)))) (zh zg zb))) (zA (zu (za v5 (zh zg zb))) zb)))))
  (zc (seT 6 zJ (zq ju (pv 6) (zD (zA (zu (zA (zu (zh zg (zA (zu (za v3 (za v3 zb))) (za v0 zb)))) (zh zg zb))) zb))))
  (zc (seT 6 zJ (zq ju (pv 6) (zD (zA (zu (zA (zu (zh zg (zA (zu (za v3 (za v3 (zh zg zb)))) (za v0 zb)))) (zh zg zb))) zb))))
  (zc (seT 6 zJ (zq ju (pv 6) (zD (zA (zu (zA (zu (zh zg (za v3 (zh zg (zh zg (zh zg (za v0 zb))))))) (zh zg zb))) zb))))
  (zc (seT 6 zJ (zq ju (pv 6) (zD (zA (zu (zA (zu (zh zg (za v3 (za v3 (zh zg (zh zg (za v0 zb))))))) (zh zg zb))) zb))))
  (zc (seT 6 zJ (zq ju (pv 6) (zD (zA (zu (zA (zu (zh zg (za v3 (za v3 (za v3 (zh zg (za v0 zb))))))) (zh zg zb))) zb))))
  (zc (seT 6 zJ (zq ju (pv 6) (zD (zA (zu (zA (zu (zh zg (zh zg (za v3 (zh zg (zh zg (za v0 zb))))))) (zh zg zb))) zb))))
  (zc (seT 6 zJ (zq ju (pv 6) (zD (zA (zu (zA (zu (zh zg (za v0 (za v0 zb)))) (zh zg zb))) zb))))
  (zc (seT 6 zJ (zq ju (pv 6) (zD (zA (zu (zA (zu (zh zg (za v4 (za v5 zb)))) (zh zg zb))) zb))))
  (zc (seT 6 zJ (zq ju (pv 6) (zD (zA (zu (zA (zu (zh zg (za v5 (za v4 zb)))) (zh zg zb))) (zA (zu (zA (zu (zh zg (za v0 (za v4 zb)))) (zh zg zb))) zb)))))
  (zc (seT 6 zJ (zq ju (pv 6) (zD (zA (zu (zA (zu (zh zg (za v3 (zh zg (za v0 (za v0 zb)))))) (zh zg zb))) zb))))
  (zc (seT 6 zJ (zq ju (pv 6) (zD (zA (zu (zA (zu (zh zg (zh zg (za v3 (za v0 (za v5 zb)))))) (zh zg zb))) zb))))
  (zc (seT 7 zJ (zu (zh zg (za v3 (za v3 (zh zg (zh zg (za v0 zb))))))))
  (zc (seT 6 zJ (zq ju (pv 6) (zD (zA (zu (zA (zu (zh zg (za v0 (zA (zu (zh zg (zA (zu (zh zg zb)) (za (pv 7) zb)))) zb)))) (zh zg zb))) zb))))
  (zc (seT 6 zJ (zq ju (pv 6) (zD (zA (zu (zA (zu (zh zg (zA (zu (zh zg (zh zg (zh zd zb)))) (za v5 zb)))) (zh zg zb))) zb))))
  (zf (zt (ixL (pv 6) (zq zU v2 (leN T.len (za (pv 6) zb))))))))))))))))))))))))),?_)
 ac_rfl;show j8 (λv H'=>v= .str one/\H'=H) (λR hR=>!(zy hh (by rw[oI];show zL) (hR _ _ (rfl,rfl)))) ?_;rintro _ G ⟨rfl,rfl⟩;have g0:=zw.refl G;show z2v [AA qv,AA (.ref hp),AA (.int turn),AA (.str one),AB,AB,AB,AB] rfl ?_;show j8 (λv H'=>zw G H'/\QAt H' (.sort "zz" q) v) ?_ ?_
 .walk_at "m1"
  show hR _ _ (s,(_,_,rfl,h.ix 0 rfl,hq.same s))
 rintro vb G ⟨s,hb⟩;replace hq:=hq.same s;replace g0:=g0.trans s;show z2v [AA qv,AA (.ref hp),AA (.int turn),AA (.str one),AA vb,AB,AB,AB] rfl ?_;show j8 (λv H'=>zw G H'/\QAt H' (.table "zz") v) ?_ ?_
 .walk_at "m1"
  show hR _ _ (s,(_,rfl,h.ix 0 rfl))
 rintro vn G ⟨s,hn⟩;replace hq:=hq.same s;replace hb:=hb.same s;replace g0:=g0.trans s;show z2v [AA qv,AA (.ref hp),AA (.int turn),AA (.str one),AA vb,AA vn,AB,AB] rfl ?_;show j8 (Mn (λH=>It th H (2*(post q).length+10)) 2 G) ?_ ?_
 .walk_at "m1"
  show nwF (λu u u s h=>h.same s) (xs:= [_,_]) s (qe rfl) ?_ hR;show qm.mpr ((_,_,(.pick (.no (.less (.nm "zz") (.nu 1))) q),.col,rfl,h.ix 1 rfl,(_,_,_,rfl,h.ix 2 rfl,(_,_,rfl,h.ix 3 rfl,(_,rfl,h.ix 4 rfl)),hq.same s),Ak.w1.up ∅),qm.mpr ((_,_,(.sort "zz" q),.col,rfl,h.ix 0 rfl,hb.same s,Ak.bad.up ∅),λu z=>nomatch z))
 walk_at "m2"
 show j8 (Mn (λH=>It th H (2*(post q).length+10)) 4 G) ?_ ?_
 .walk_at "m1"
  show nwC (λu u u s h=>h.same s) (xs:= [_,_]) s xm al lm (qe rfl) ?_ hR;show qm.mpr ((_,_,(.cols [one,"zz"] q),.col,rfl,h.ix 1 rfl,(_,_,_,rfl,h.ix 2 rfl,h.ix 3 rfl,hq.same s),Ak.w3.up ∅),qm.mpr ((_,_,(.table "zz"),.tab,rfl,h.ix 0 rfl,hn.same s,z2Y.up ∅),λu z=>nomatch z))
 walk_at "m2"
 show j8 (Mn (λH=>It th H (2*(post q).length+10)) 5 G) ?_ ?_
 .walk_at "m1"
  show nwC (λu u u s h=>h.same s) (xs:= [_]) s xm al lm (qe rfl) ?_ hR;show qf.mpr (_,_,(.cols [one,one] q),.two,rfl,h.ix 0 rfl,(_,_,_,rfl,h.ix 1 rfl,h.ix 2 rfl,hq.same s),Ak.w5.up ∅)
 walk_at "m2"
 show j8 (Mn (λH=>It th H (2*(post q).length+10)) 6 G) ?_ ?_
 .walk_at "m1"
  show nwC (λu u u s h=>h.same s) (xs:= [_]) s xm al lm (qe rfl) ?_ hR;show qf.mpr (_,_,(.cols [one,one,"zz"] q),.col,rfl,h.ix 0 rfl,(_,_,_,rfl,h.ix 1 rfl,h.ix 2 rfl,hq.same s),Ak.w6.up ∅)
 walk_at "m2"
 show j8 (Mn (λH=>It th H (2*(post q).length+10)) 7 G) ?_ ?_
 .walk_at "m1"
  show nwC (λu u u s h=>h.same s) (xs:= [_]) s xm al lm (qe rfl) ?_ hR;show qf.mpr (_,_,(.group one "zz" "x" "y" q),.col,rfl,h.ix 0 rfl,(_,_,rfl,h.ix 1 rfl,hq.same s),Ak.w7.up ∅)
 walk_at "m2"
 show j8 (Mn (λH=>It th H (2*(post q).length+10)) 8 G) ?_ ?_
 .walk_at "m1"
  show nwC (λu u u s h=>h.same s) (xs:= [_]) s xm al lm (qe rfl) ?_ hR;show qf.mpr (_,_,(.group one one "x" "x" q),.two,rfl,h.ix 0 rfl,(_,_,rfl,h.ix 1 rfl,hq.same s),Ak.w8.up ∅)
 walk_at "m2"
 show j8 (Mn (λH=>It th H (2*(post q).length+10)) 9 G) ?_ ?_
 .walk_at "m1"
  show nwC (λu u u s h=>h.same s) (xs:= [_]) s xm al lm (qe rfl) ?_ hR;show qf.mpr (_,_,(.group one one one "x" q),.two,rfl,h.ix 0 rfl,(_,_,rfl,h.ix 1 rfl,hq.same s),Ak.w9.up ∅)
 walk_at "m2"
 show j8 (Mn (λH=>It th H (2*(post q).length+10)) 10 G) ?_ ?_
 .walk_at "m1"
  show nwC (λu u u s h=>h.same s) (xs:= [_]) s xm al lm (qe rfl) ?_ hR;show qf.mpr (_,_,(.group "zz" one "x" "x" q),.col,rfl,h.ix 0 rfl,(_,_,rfl,h.ix 1 rfl,hq.same s),Ak.w10.up ∅)
 walk_at "m2"
 show j8 (Mn (λH=>It th H (2*(post q).length+10)) 11 G) ?_ ?_
 .walk_at "m1"
  show nwC (λu u u s h=>h.same s) (xs:= [_]) s xm al lm (qe rfl) ?_ hR;show qf.mpr (_,_,(.pair q q),.two,rfl,h.ix 0 rfl,(_,_,_,rfl,h.ix 1 rfl,hq.same s,hq.same s),Ak.w11.up ∅)
 walk_at "m2"
 show j8 (Mn (λH=>It th H (2*(post q).length+10)) 12 G) ?_ ?_
 .walk_at "m1"
  show nwC (λu u u s h=>h.same s) (xs:= [_]) s xm al lm (qe rfl) ?_ hR;show qf.mpr (_,_,(.pair (.sort "zz" q) (.table "zz")),.col,rfl,h.ix 0 rfl,(_,_,_,rfl,h.ix 1 rfl,hb.same s,hn.same s),Ak.w12.up ∅)
 walk_at "m2"
 show j8 (Mn (λH=>It th H (2*(post q).length+10)) 14 G) ?_ ?_
 .walk_at "m1"
  show nwC (λu u u s h=>h.same s) (xs:= [_,_]) s xm al lm (qe rfl) ?_ hR;show qm.mpr ((_,_,(.pair (.table "zz") (.sort "zz" q)),.tab,rfl,h.ix 2 rfl,(_,_,_,rfl,h.ix 3 rfl,hn.same s,hb.same s),Ak.w13.up ∅),qm.mpr ((_,_,(.both q (.sort "zz" q)),.col,rfl,h.ix 0 rfl,(_,_,_,rfl,h.ix 1 rfl,hq.same s,hb.same s),Ak.w14.up ∅),λu z=>nomatch z))
 walk_at "m2"
 show j8 (Mn (λH=>It th H (2*(post q).length+10)) 15 G) ?_ ?_
 .walk_at "m1"
  show nwC (λu u u s h=>h.same s) (xs:= [_]) s xm al lm (qe rfl) ?_ hR;show qf.mpr (_,_,(.join one "zz" q q),.col,rfl,h.ix 0 rfl,(_,_,_,rfl,h.ix 1 rfl,hq.same s,hq.same s),Ak.w15.up ∅)
 walk_at "m2"
 show j8 (Mn (λH=>It th H (2*(post q).length+10)) 16 G) ?_ ?_
 .walk_at "m1"
  show nwC (λu u u s h=>h.same s) (xs:= [_]) s xm al lm (qe rfl) ?_ hR;show qf.mpr (_,_,(.join "zz" one q (.table "zz")),.tab,rfl,h.ix 0 rfl,(_,_,_,rfl,h.ix 1 rfl,hq.same s,hn.same s),Ak.w16.up ∅)
 walk_at "m2"
 show j8 (λv H'=>zw G H'/\QAt H' (.group one one "x" "y" q) v) ?_ ?_
 .walk_at "m1"
  show hR _ _ (s,(_,_,rfl,h.ix 0 rfl,hq.same s))
 rintro vo G ⟨s,ho⟩;replace hq:=hq.same s;replace hb:=hb.same s;replace hn:=hn.same s;replace al:=λx m=>(al x m).same s
 replace xm:=s _ _ xm;replace g0:=g0.trans s;show z2v [AA qv,AA (.ref hp),AA (.int turn),AA (.str one),AA vb,AA vn,AA (.ref pm),AA vo] rfl ?_;show j8 (Mn (λH=>It th H (2*(post q).length+10)) 17 G) ?_ ?_
 .walk_at "m1"
  show nwC (λu u u s h=>h.same s) (xs:= [_]) s xm al lm (qe rfl) ?_ hR;show qf.mpr (_,_,(.both q (.cols ["x"] (.group one one "x" "y" q))),.alike,rfl,h.ix 0 rfl,(_,_,_,rfl,h.ix 1 rfl,hq.same s,(_,_,_,rfl,h.ix 2 rfl,h.ix 3 rfl,ho.same s)),Ak.w17.up ∅)
 walk_at "m2"
 show j8 (Mn (λH=>It th H (2*(post q).length+10)) 18 G) ?_ ?_
 .walk_at "m1"
  show nwC (λu u u s h=>h.same s) (xs:= [_]) s xm al lm (qe rfl) ?_ hR;show qf.mpr (_,_,(.pick (.less (.nm "zz") (.nu 1)) (.table "zz")),.tab,rfl,h.ix 0 rfl,(_,_,_,rfl,h.ix 1 rfl,(_,rfl,h.ix 2 rfl),hn.same s),Ak.w18.up ∅)
 walk_at "m2"
 have hlen:(0:Int)<((aa.length:Nat):Int):=by rw[lm];decide
 obtain⟨hi,ei⟩:=z4W (xs:=aa) (z0T (i:=turn) hlen).1 (z0T (i:=turn) hlen).2;show !(!(!(pm,!(.inl (SqL.of xm),_,!(rfl,hlen,zy xm ei (fin _ _ g0 (al _ (wz hi))))))))
theorem zfq(T:TabOk th tr):∀n∈tabs,∀s∈th n,s∈z0e 26 3:=by
 have hl:∀s∈jf,s∈z0e 26 3:=by decide
 have ht:∀s∈th "t",s∈z0e 26 3:=by
  obtain⟨m,_,_,e⟩:=T.t;rw[e];show λs hs=>hl s (QB hs)
 intro n hn;have a:n="t"\/n="tuvtuvtuvw"\/n="tuvtuvtuvx"\/n="tuvz":=by
  unfold tabs at hn
  simpa using hn
 rcases a with rfl|rfl|rfl|rfl
 .exact ht
 .rw [T.w];decide
 .rw [T.x];decide
 .rw [T.z];show ht
theorem z9r:∀g∈signs,(("n":Str)++g)∈z0e 26 3/\(("s":Str)++g)∈z0e 26 3:=by decide
theorem yO(T:TabOk th tr):∀{q:Qn},okQ th q->∀s∈ze th q,s∈z0e 26 3
 | .table n,h=>zfq T n h
 | .pick _ q,h=>yO T (q:=q) h.2.2
 | .cols ns q,h=>λs hs=>yO T (q:=q) h.2.2.2 s (h.2.2.1 s hs)
 | .pair q r,h=>λs hs=>by
  rcases wA.mp hs with hs|hs
  .exact yO T (q:=q) h.2.1 s hs
  .exact yO T (q:=r) h.2.2 s hs
 | .join a b q r,h=>λs hs=>by
  rcases wA.mp hs with hs|hs
  .exact yO T (q:=q) h.2.2.2.1 s hs
  .exact yO T (q:=r) h.2.2.2.2 s hs
 | .both q r,h=>yO T (q:=q) h.2.1
 | .first _ q,h=>yO T (q:=q) h.2
 | .group a b n s q,h=>λx e=>by
  obtain⟨ha,_,⟨g,d,rfl,rfl⟩,_,_,f⟩:=h;have c:x∈ [a,("n":Str)++g,("s":Str)++g]:=e;simp only[wF,qh,QE]at c;rcases c with rfl|rfl|rfl
  .exact yO T (q:=q) f _ ha
  .exact(z9r g d).1
  .exact(z9r g d).2
 | .sort _ q,h=>yO T (q:=q) h.2
theorem zcP:∀i∈z0v,0<=i:=by decide
theorem zdj:∀g∈signs,(("n":Str)++g)≠(("s":Str)++g):=by decide
def z7K(T:TabOk th tr)(c:okQ th q)(d:okQ th r)(nd:∀n∈ze th q,n∉ze th r):(ze th q++ze th r).length<=100:=
 wG (kA (QN.mpr ((jx T c).2,(jx T d).2,λa ha b h e=>nd a ha (e ▸ h))) λx f=>(wA.mp f).elim (yO T c x) (yO T d x)) z4O
theorem z0Y(T:TabOk th tr):∀{q:Qn},okQ th q->wfQ th q
 | .table n,h=>h
 | .pick c q,h=>(h.1.ok,wG h.2.1 (),z0Y T h.2.2)
 | .cols ns q,h=>(h.2.1,h.2.2.1,z0Y T h.2.2.2)
 | .pair q r,h=>(h.1,z7K T h.2.1 h.2.2 h.1,z0Y T h.2.1,z0Y T h.2.2)
 | .join a b q r,h=>(h.1,h.2.1,h.2.2.1,z7K T h.2.2.2.1 h.2.2.2.2 h.2.2.1,z0Y T h.2.2.2.1,z0Y T h.2.2.2.2)
 | .both q r,h=>(h.1,z0Y T h.2.1,z0Y T h.2.2)
 | .first n q,h=>(zcP n h.1,z0Y T h.2)
 | .group a b n s q,h=>by
  obtain⟨ha,d,⟨g,e,rfl,rfl⟩,h1,h2,f⟩:=h;show(ha,d,?_,z0Y T f);have:=zdj g e;simp[h1,h2,this]
 | .sort a q,h=>(h.1,z0Y T h.2)
set_option tactic.hygienic true in
theorem zdf(q:Qn):(post q).length<=depth q*zx q:=by
 induction q
 case' pick q i|cols q i|first q i|sort q i=>have:=yq q
 case' group q i=>have:=yq q
 case' pair q r i j|join q r i j|both q r i j=>have:=yq q;have:=yq r;have a:depth q*zx q<=max (depth q) (depth r)*zx q:=QD _ (Nat.le_max_left _ _);have b:depth r*zx r<=max (depth q) (depth r)*zx r:=QD _ (Nat.le_max_right _ _)
 all_goals
  simp only[post,depth,zx,wg,wZ,w00,QC,w1w]
  lia
theorem zbP(h:okQ th q)(hd:depth q<=25)(hl:zx q<=12):wt q<=4000:=by
 have h1:=zfG h;have h2:=zdf q;have a:depth q*zx q<=25*12:=Qk hd hl
 lia
noncomputable def zeH(K:W.Frag)(Ca Cq C:AD):Bool:=PySem.W.excIn K C z2Q "ValueError.__new__" && (PySem.W.exmOne K (.ref C) (.ref Ca) == AA true)&&(PySem.W.findIn K (.ref C) "__getattribute__" == AA (AA (.builtin "BaseException.__getattribute__")))&&(PySem.W.findIn K (.ref C) "__getattr__" == AA AB) &&
 (PySem.W.subIn K (.ref C) (.type "BaseException") == AA true)&&(PySem.W.clsIn K C).isSome&&(PySem.W.findIn K (.ref C) "__class__" == AA (AA (.builtin "object.__class__")))&&(PySem.W.mroIn K C (.type "object") == AA true)&&(PySem.W.kitOne K (.ref C) (.ref Cq) == AA false)&&(PySem.W.kitOne K (.ref C) (.type "ValueError") == AA true)
noncomputable def z8N(K:W.Frag)(x y:AD):Bool:=(PySem.W.kitOne K (.ref x) (.ref y) == AA false)&&(PySem.W.kitOne K (.ref y) (.ref x) == AA false)
noncomputable def zfa(K:W.Frag)(Ca Cq a b c d:AD):Bool:=([a,b,c,d].all (zeH K Ca Cq))&&(PySem.W.specialIn K (.builtin "object.__class__") "__get__" == AA (AA (.builtin "getset_descriptor.__get__")))&&(PySem.W.takesIn K (.builtin "object.__class__") == AA true)&&z8N K a b&&z8N K a c&&z8N K a d&&z8N K b c&&z8N K b d&&z8N K c d
noncomputable def z2s(a b c d:AD):Er->AD
 | .col=>a
 | .tab=>b
 | .two=>c
 | .alike=>d
structure TxtE(K:W.Frag)(mg:Str->Option AC)(Ce:Er->AD)(Ca Cq:AD):Prop where
 ask:mg "AskError"=AA (.ref Ca)
 noq:mg "NoQuestion"=AA (.ref Cq)
 col:mg "NoColumn"=AA (.ref (Ce .col))
 tab:mg "NoTable"=AA (.ref (Ce .tab))
 two:mg "TwoColumns"=AA (.ref (Ce .two))
 alk:mg "NotAlike"=AA (.ref (Ce .alike))
 val:mg "ValueError"=AB
 ex:∀e,PySem.W.excIn K (Ce e) z2Q "ValueError.__new__"=true
 exm:∀e,PySem.W.exmOne K (.ref (Ce e)) (.ref Ca)=AA true
 cls:∀e,ExcCls K (Ce e)
 kit:∀e e',PySem.W.kitOne K (.ref (Ce e)) (.ref (Ce e'))=AA (decide (e=e'))
 kq:∀e,PySem.W.kitOne K (.ref (Ce e)) (.ref Cq)=AA false
 kv:∀e,PySem.W.kitOne K (.ref (Ce e)) (.type "ValueError")=AA true
theorem zcN:PySem.W.kitOne K (.ref C) (.ref C)=AA true:=by
 unfold PySem.W.kitOne;rw[qc (QI _)]
def isx{R:Bool->Prop}{ea:AD}{c:AC}(e:xs= [.ref ea,y])(u:∀u,RelV y u->u=c)(x:H ea=AA (.ext (ExcAt ea D)))(k:ExcCls K D)(o:PySem.W.kitOne K (.ref D) c=AA b)(q:R b):∃ea D y c b,xs= [.ref ea,y]/\(∀u,RelV y u->u=c)/\H ea=AA (.ext (ExcAt ea D))/\ExcCls K D/\PySem.W.kitOne K (.ref D) c=AA b/\R b:=(ea,D,y,c,b,e,u,x,k,o,q)
def z1u:∀u,RelV (.ref C) u->u= .ref C:=λv r=>r
def zgl{n:String}:∀u,RelV (.ty n) u->u= .type n:=λv r=>r
theorem zdu:bootBuiltins "ValueError"=AA (.type "ValueError"):=by decide
theorem zgx(sp:PySem.W.specialIn K (.builtin "object.__class__") "__get__"=AA (AA (.builtin "getset_descriptor.__get__")))(tk:PySem.W.takesIn K (.builtin "object.__class__")=AA true)(h:zeH K Ca Cq C=true):
  PySem.W.excIn K C z2Q "ValueError.__new__"=true/\PySem.W.exmOne K (.ref C) (.ref Ca)=AA true/\ExcCls K C/\PySem.W.kitOne K (.ref C) (.ref Cq)=AA false/\PySem.W.kitOne K (.ref C) (.type "ValueError")=AA true:=by
 simp only[zeH,qX,Qb]at h;obtain⟨⟨⟨⟨⟨⟨⟨⟨⟨a1,a2⟩,c⟩,e⟩,j⟩,f⟩,d⟩,a⟩,b⟩,i⟩:=h;show(a1,a2,(c,e,j,f,d,sp,tk,a),b,i)
theorem zgY{a b c:AD}(h:zfa K Ca Cq a b c d=true)(h1:mg "AskError"=AA (.ref Ca))(h2:mg "NoQuestion"=AA (.ref Cq))(o:mg "NoColumn"=AA (.ref a))(l:mg "NoTable"=AA (.ref b))(f:mg "TwoColumns"=AA (.ref c))(n:mg "NotAlike"=AA (.ref d))(i:mg "ValueError"=AB):TxtE K mg (z2s a b c d) Ca Cq:=by
 simp only[zfa,z8N,List.all_cons,List.all_nil,qX,Bool.and_true,Qb]at h;obtain⟨⟨⟨⟨⟨⟨⟨⟨⟨a0,p,u,A⟩,sp⟩,tk⟩,k1,k2⟩,k3,q⟩,k5,w⟩,r,z⟩,y,x⟩,t,s⟩:=(h);have E:=λe=>zgx (C:=z2s a b c d e) sp tk (by cases e<;>assumption)
 show(h1,h2,o,l,f,n,i,λe=>(E e).1,λe=>(E e).2.1,λe=>(E e).2.2.1,λe j=>?_,λe=>(E e).2.2.2.1,λe=>(E e).2.2.2.2);cases e<;>cases j<;>first|show zcN|assumption
inductive spAtL(K:W.Frag)(vs:List V)(H:Hp)(Q:VK)(E:XK):Prop
 | mk:∀a (ns:List Int) (k:Nat),vs= [.ref a,.int (k:Int)]->SqL K H a (ns.map V.int)->(∀i:Int,Q (.int i) H)->spAtL K vs H Q E
theorem z8G:FnScope ["_law_script","_law_k"] ["_law_script","_law_k"] (zj z3G):=by done
theorem z8F(F:Fun K "_law_at" "_law_at" z3G f fd)(T:Txt K mg):-FnOk CX0 1 f fd ["_law_script","_law_k"] (spAtL K):=by
 clear z8G F;obtain⟨a,ns,k,rfl,ha,q⟩:=h;intro ag A A3 b c;show(_,(zc (zG (cmT z4Y v1 (leN T.len (za v0 zb)))
   (zf (zt (ixL v0 v1)))
   zv)
  (zf (zt zd))),?_)
 ac_rfl;show !(!(a,!(.inl ha,~~~(!?_))));by_cases aA:k<ns.length
 .refine ifT (qd (by rw[wa];lia)) ?_;show !(!(a,_,_,!(rfl,ha,zZ (by rw[wK,wb aA];rfl),q _)))
 .refine ifF (wL (by rw[wa];lia)) ?_;show q _
theorem zaE{X:Cx}(h:X.K=K):MtM X "list.count" (zb0 K):=by subst h;show zce
noncomputable def zf3:Option Er->Str
 | none=>"none"
 | some e=>zbI e
def zdI{tb:TSX}{a:TS}{b:AD}{D:Ends}(h:∀E:XK,(∀C H1,PySem.W.exmOne K (.ref C) (.ref b)=AA true->(∀ea,H1 ea=AB->a {nx:=λσ' H'=>D.nx (σ'.set j AB) H',rt:=D.rt,bk:=λσ' H'=>D.bk (σ'.set j AB) H',ct:=λσ' H'=>D.ct (σ'.set j AB) H'} (σ.set j (AA (.ref ea))) (upd H1 ea (.ext (ExcAt ea C))))->E (.ref C) AB H1)->tb D E σ H):zgk tb a K b j D σ H:=h _ λC H1 m k=>(C,rfl,m,k)
inductive spSaid(C:AD)(τ:Nat->AD)(vs:List V)(H:Hp)(Q:VK)(E:XK):Prop
 | mk:∀th tr q v tp (i:Nat),vs= [.int (i:Int),.ref tp,v]->TabOk th tr->FourAt th tr H tp->QAt H q v->(∀r∈post q,kj th r)->(post q).length<=8000000->Ls τ H->((post q).findSome? (jK th)=AB->wfQ th q/\wt q<=4000/\bd q<=900000)->(∀H':Hp,Ev th C H H'->Ls τ H'->Q (.str (zf3 ((post q).findSome? (jK th)))) H')->spSaid C τ vs H Q E
theorem jv:FnScope ["_law_which","_law_tables","_law_asked","_law_word","e","_law_kinds"] ["_law_which","_law_tables","_law_asked"] (zj z22):=by done
theorem z70(F:Fun K "_law_said" "_law_said" z22 f fd)(T:Txt K mg)(TE:TxtE K mg Ce Ca Cq)(d:-KnX 10 "heads_of" ["tables","question"] (spHeadsOf K Ce τ))(b:-KnX 11 "plain_answer" ["tables","question"] (spPlain K Ce τ))(o:-KnX 12 "turnings" ["tables","question"] (spTurnings C Ce τ))(a:-KnX 13 "clever_answer" ["tables","question"] (spClever C Ce τ)):-FnOk CX0 14 f fd ["_law_which","_law_tables","_law_asked"] (spSaid C τ):=by
 show F.ok jv (λvs H Q E h=>?_) (λag A A3 s H vs Q E y h=>?_)
 .obtain⟨th,tr,q,v,tp,i,rfl,_⟩:=h
  rfl
 obtain⟨th,tr,q,v,tp,i,rfl,TT,t,x,lm,hsz,u,ok,fin⟩:=h;have Z:=TE.ask;have X:=TE.noq;have M:=TE.col;have I:=TE.tab;have O:=TE.two;have N:=TE.alk;show(_,(zc (seT 3 jv zg)
  (zc (zfl (j:=4) rfl rfl (z8k (cmT zO v0 zd)
   (z3f (z33 d y.m rfl (za v1 (za v2 zb))))
   (z8k (cmT zO v0 zd)
   (z3f (z33 b y.m rfl (za v1 (za v2 zb))))
   (z8k (cmT zO v0 zd)
   (z3f (z33 o y.m rfl (za v1 (za v2 zb))))
   (z3f (z33 a y.m rfl (za v1 (za v2 zb))))))) rfl Z jv.nd rfl rfl λg=>
   (zc (seT 3 jv zg)
   (zc (zG (jj (zM (ya (K:=K) rfl) rfl T.isinstance wJ (za v4 (za (kD (v:= .ref (Ce .col)) rfl M rfl) zb))))
    (zf (seT 3 jv zg))
    zv)
   (zc (zG (jj (zM (ya (K:=K) rfl) rfl T.isinstance wJ (za v4 (za (kD (v:= .ref (Ce .tab)) rfl I rfl) zb))))
    (zf (seT 3 jv zg))
    zv)
   (zc (zG (jj (zM (ya (K:=K) rfl) rfl T.isinstance wJ (za v4 (za (kD (v:= .ref (Ce .two)) rfl O rfl) zb))))
    (zf (seT 3 jv zg))
    zv)
   (zc (zG (jj (zM (ya (K:=K) rfl) rfl T.isinstance wJ (za v4 (za (kD (v:= .ref (Ce .alike)) rfl N rfl) zb))))
    (zf (seT 3 jv zg))
    zv)
   (zc (seT 5 jv (zD (zK (zM (ya (K:=K) rfl) rfl T.isinstance wJ (za v4 (za (kD (v:= .ref (Ce .col)) rfl M rfl) zb))) (zK (zM (ya (K:=K) rfl) rfl T.isinstance wJ (za v4 (za (kD (v:= .ref (Ce .tab)) rfl I rfl) zb))) (zK (zM (ya (K:=K) rfl) rfl T.isinstance wJ (za v4 (za (kD (v:= .ref (Ce .two)) rfl O rfl) zb))) zb)))))
   (zc (seT 5 jv (zq ju v5 (zD (zK (zM (ya (K:=K) rfl) rfl T.isinstance wJ (za v4 (za (kD (v:= .ref (Ce .alike)) rfl N rfl) zb))) (zK (zM (ya (K:=K) rfl) rfl T.isinstance wJ (za v4 (za (kD (v:= .ref Cq) rfl X rfl) zb))) zb)))))
   (zf (zG (z1w (cmT z1J (z8g (K:=K) rfl wR PySem.F.slot_list_count PySem.F.type_list_count (zaE (K:=K) rfl) v5 (zh yn zb)) zd) (kh (jj (zM (ya (K:=K) rfl) rfl T.isinstance wJ (za v4 (za (yK (v:= .ty "ValueError") rfl TE.val zdu rfl) zb))))))
    (zf (seT 3 jv zg))
    zv))))))))))
  (zf (zt v3)))),?_)
 show z1S ?_;dsimp only;show z3j ?_;show zdI λE R=>?_
 have U:∀e H',(post q).findSome? (jK th)=AA e->Ev th C H H'->Ls τ H'->E (.ref (Ce e)) AB H':=λe H1 B v1 p=>R _ _ (TE.exm e) λea G=>by
  clear ea G H2 n2 x2 ea;have S:∀H',zw H2 H'->Q (.str (zbI e)) H':=λH' n=>by
   have:=fin H' (v1.trans (Ev.of (Nt.of (n2.trans n)))) (p.same (n2.trans n));rw[B]at this;show this
  clear R fin B v1 p u ok lm hsz x t TT;cases e <;>
  .refine !(isx rfl z1u x2 (TE.cls _) (TE.kit _ .col) (!?_))
   first|show ifT rfl ?_|show ifF rfl ?_
   show !(isx rfl z1u x2 (TE.cls _) (TE.kit _ .tab) (!?_))
   first|show ifT rfl ?_|show ifF rfl ?_
   show !(isx rfl z1u x2 (TE.cls _) (TE.kit _ .two) (!?_))
   first|show ifT rfl ?_|show ifF rfl ?_
   show !(isx rfl z1u x2 (TE.cls _) (TE.kit _ .alike) (!?_))
   first|show ifT rfl ?_|show ifF rfl ?_
   show !(isx rfl z1u x2 (TE.cls _) (TE.kit _ .col) (!(isx rfl z1u x2 (TE.cls _) (TE.kit _ .tab) (!(isx rfl z1u x2 (TE.cls _) (TE.kit _ .two) (yx rfl,λl hl=>?_))))));clear l hl H3 n3 x3 l;show !(!(isx rfl z1u (n3 _ _ x2) (TE.cls _) (TE.kit _ .alike) (!(isx rfl z1u (n3 _ _ x2) (TE.cls _) (TE.kq _) (yx rfl,λm hm=>?_)))));clear m hm H4 n4 x4 m;show(l,m,_,!(rfl,n4 _ _ x3,x4,zR (),λk Y=>?_));clear k Y H5 n5 x5 k;have J:=n3.trans (n4.trans n5);show !(.inl (rfl,_,SqL.of x5),k,_,_,rfl,rfl,SqL.of x5,rfl,rfl,rfl,!(_,(!(isx rfl zgl (J _ _ x2) (TE.cls _) (TE.kv _) (!(rfl,rfl)))),?_));show ifF (by rfl) ?_;show !(S _ J)
 have D:∀H',Ev th C H H'->Ls τ H'->(post q).findSome? (jK th)=AB->Q (.str "none") H':=λH' v L c=>by
  have:=fin H' v L;rw[c]at this;show this
 have bad:∀e,(post q).findSome? (jK th)=AA e->∀H',Nt H H'->Ls τ H'->E (.ref (Ce e)) AB H':=λe B H' n L=>U e H' B (Ev.of n) L
 show !(rfl,!?_);by_cases i0:i=0
 .subst i0;show ifT rfl ?_;show !(!(th,tr,q,v,tp,rfl,t,x,lm,hsz,u,λc hp H1 r p g=>!(D H1 (Ev.of r) p c),bad))
 show ifF (wL (by intro z;cases z;show i0 rfl)) ?_;show !(rfl,!?_);by_cases i1:i=1
 .subst i1;show ifT rfl ?_;show !(!(th,tr,q,v,tp,rfl,TT,t,x,lm,hsz,u,λc=>((ok c).1,(ok c).2.2),λc v' H1 r p=>!(D H1 (Ev.of r) p c),bad))
 show ifF (wL (by intro z;injection z with z;lia)) ?_;show !(rfl,!?_);by_cases i2:i=2
 .subst i2;show ifT rfl ?_;show !(!(th,tr,q,v,tp,rfl,TT,t,x,lm,hsz,u,λc=>((ok c).1,(ok c).2.1),λc l H1 r p=>!(D H1 r p c),bad))
 show ifF (wL (by intro z;injection z with z;lia)) ?_;show !(!(th,tr,q,v,tp,rfl,TT,t,x,lm,hsz,u,λc=>((ok c).1,wG (ok c).2.1 (),(ok c).2.2),λc v' H1 r p=>!(D H1 r p c),bad))
theorem zf5(T:TabOk th tr)(h:okQ th q){one:Str}(e:ze th q=one::hs):Ask th q one:=by
 have m:one∈ze th q:=by rw[e];show .head _
 have p:=yO T h;have z:∀s∈z0e 26 3,s≠"zz"/\s≠"x"/\s≠"y"/\s.length<=1000:=by decide
 show(zfV T (z0Y T h),m,λg=>(z _ (p _ g)).1 rfl,(z _ (p _ m)).2.1,(z _ (p _ m)).2.2.1,(jM T (z0Y T h)).2,T.zz,(z _ (p _ m)).2.2.2)
inductive spLaw(K:W.Frag)(τ:Nat->AD)(vs:List V)(H:Hp)(Q:VK)(E:XK):Prop
 | mk:∀a (ns:List Int),vs= [.ref a]->SqL K H a (ns.map V.int)->ns.length<=63->jR H (τ 1) zcE zcv->jR H (τ 2) zcb zbX->jR H (τ 3) z4g zbV->jR H (τ 4) zb2 zb1->(∀H',Q (.bl true) H')->spLaw K τ vs H Q E
inductive Askd(th:Str->List Str)(H H':Hp)(q q':Qn)(v':V)(iS:Str):Prop
 | mk:zw H H'->QAt H' q' v'->(∀r∈post q',kj th r)->(post q').length<=8000000->iS=zf3 ((post q').findSome? (jK th))->((post q').findSome? (jK th)=AB->q'=q)->Askd th H H' q q' v' iS
theorem zfr(i j n m:Nat):min (min j n-min i n) m<=j-i:=by
 show wG (Nat.min_le_left _ _) ?_;rcases Nat.le_total i n with h|h
 .rw [Nat.min_eq_left h];show Nat.sub_le_sub_right (Nat.min_le_left j n) i
 .rw [Nat.min_eq_right h,Nat.sub_eq_zero_of_le (Nat.min_le_right j n)];show qN _
theorem z0N:FnScope ["_law_script","_law_tables","_law_state","_law_asked","_law_due","_law_told","_law_handed","_law_which"] ["_law_script"] (zj z5Y):=by done
theorem zfp(F:Fun K "law" "law" z5Y f fd)(T:Txt K mg)(dt:∀i j:Nat,1<=i->i<j->j<=4->τ i≠τ j)(u:-Kn 1 "_law_wide" ["_law_script","_law_few","_law_bound"] (spWide K))(d:-Kn 1 "_law_stocked" ["_law_cells","_law_more"] (spStocked K))(s:-Kn 10 "_law_grown" ["_law_cells","_law_tables"] (spGrown K))(c:-Kn 1 "_law_at" ["_law_script","_law_k"] (spAtL K))(o:-Kn 1 "_law_wrong" ["_law_asked","_law_heads","_law_turn"] (spWrong K))
  (t:-Kn 1 "_law_again" ["_law_tables"] (spAgain K))(B:-Kn 14 "_law_said" ["_law_which","_law_tables","_law_asked"] (spSaid C τ))(y:-Kn 4 "_law_kept" ["_law_handed","_law_tables"] (spKept K))(G:-KnX 10 "heads_of" ["tables","question"] (spHeadsOf K Ce τ))(r:-Kn 1 "_law_texts" ["_law_found","_law_due"] (spTexts K)):-FnOk CX0 15 f fd ["_law_script"] (spLaw K τ):=by
 clear z0N F;obtain⟨a,ns,rfl,X,hn,L1,ae,L3,L4,q⟩:=h;have hL:Ls τ H:=(L1,ae,L3,L4,dt);intro ag A A3 sh I;show(_,(zc (seT 1 z0N (jd d I.m (zp (jy yN v0 (jI zd) (jI zd)) (zK (jd u I.m (za v0 (zh zd (zh zd zb)))) zb))))
  (zc (seT 2 z0N (jd s I.m (zp (jy yN v0 (jI zd) (jI zd)) (za v1 zb))))
  (zc (seT 3 z0N (ixT v2 zd))
  (zc (seT 4 z0N zg)
  (zc (kP (cmT z6b (zq zU (jd c I.m (za v0 (zh zd zb))) zd) zd)
   (zc (seT 5 z0N (jd o I.m (za v3 (zp (ixT v2 zd) (zK (jd c I.m (za v0 (zh zd zb))) zb)))))
   (zc (seT 3 z0N (ixT v5 zd))
   (zc (seT 4 z0N (ixT v5 zd))
   (zf (zG (cmT zO (zq zU (jd c I.m (za v0 (zh zd zb))) zd) zd)
    (zf (seT 3 z0N (zu (zh zg (zh zd (zA (zu (zh zg (zh zg (za v3 zb)))) zb))))))
    zv)))))
   zv)
  (zc (seT 6 z0N (jd t I.m (za v1 zb)))
  (zc (foR (jW rfl T.range (zh zd zb)) (gnM 7 z0N)
   (zf (zG (cmT z1J (jd B I.m (za (pv 7) (za (pv 6) (za v3 zb)))) v4)
    (zf (zt yn))
    zv)))
  (zc (zG (kh (jj (jd y I.m (za (pv 6) (za v1 zb)))))
   (zf (zt yn))
   zv)
  (zf (zt (zg1 (cmE z1J v4 zg) (zf8 (jd r I.m (zK (jo G z4m I.m rfl (za (pv 6) (za v3 zb))) (zp (ixT v2 zd) zb))))))))))))))),?_)
 have vt:∀k:Nat,HT.sIx ns.length ns.length (AA (k:Int))=min k ns.length/\HT.sIx ns.length 0 (AA (k:Int))=min k ns.length:=λk=>by
  have hk:¬((k:Int)<0):=by lia
  show(?_,?_) <;>
  .show(if(k:Int)<0 then((k:Int)+(ns.length:Int)).toNat else min (k:Int).toNat ns.length)=_
   rw[wW hk]
   rfl
 have cut:∀i j:Nat,((ns.drop (HT.sIx ns.length 0 (AA (i:Int)))).take (HT.sIx ns.length ns.length (AA (j:Int))-HT.sIx ns.length 0 (AA (i:Int)))).length<=j-i:=λi j=>by
  rw[qi,(vt j).1,(vt i).2];show zfr ..
 show !(!(!(a,!(X,λl2 bF=>?_))));rw[z2k];clear l2 bF H2 n2 x2 l2;show !(a,ns,8,180,rfl,n2.seq X,hn,(),(),λm H3 n3 m0 m1=>?_);show(l2,_,m,rfl,SqL.of (n3 _ _ x2),wG (cut 12 27) (),m0,∅,λp th tr H4 n4 TT f4=>?_);have vv:=n2.trans (n3.trans n4);show !(!(!(a,!(vv.seq X,λl1 iL=>?_))));rw[z2k];clear l1 iL H5 n5 x5 l1;have c1:((ns.drop (HT.sIx ns.length 0 (AA 2))).take (HT.sIx ns.length ns.length (AA 12)-HT.sIx ns.length 0 (AA 2))).length<=10:=cut 2 12;show !(l1,p,_,th,tr,rfl,SqL.of x5,wG c1 (),TT,f4.same n5,λS L used twice N H6 n6 nB R hu ht=>?_);obtain⟨p',qv,hp,rp,rs,rfl,h1,h2,h3,h4,h5,rfl⟩:=nB;have mU:=n5.trans n6;have fL:=vv.trans mU;have vw:=z0Y TT R.ok;have eX:depth L<=25:=by have:=R.dp;lia
 have Bf:zx L<=12:=wG R.lv (Qk (show used<=3 from hu) (yM twice).2);have iM:=zbP R.ok eX Bf;have iC:bd L<=900000:=wG R.sub (wG (Qk (Nat.pow_le_pow_right () hu) (yM twice).2) ());have bJ:(post L).length<=4000:=wG (z6T L) iM;obtain⟨one,hs,oI⟩:∃one hs,ze th L=one::hs:=List.exists_cons_of_ne_nil (jx TT R.ok).1
 have A:=zf5 TT R.ok oI;show !(zi h1 zL ?_);show(λσ H'=>∃(q':Qn)(S:V)(iS:Str)(o5:Option V),σ= [AA (.ref a),AA (.ref p),AA (.ref p'),AA S,AA (.str iS),o5,AB,AB]/\Askd th H6 H' L q' S iS,?_,?_)
 .refine !(a,ns,0,rfl,fL.seq X,λi0=>?_);show(_,!(rfl,(by change(0:Int)<4;decide),~~~(!?_)));by_cases g0:0<i0%4
  .refine ifT (qd g0) ?_;show !(!(zi h1 jD (!(a,ns,1,rfl,fL.seq X,λi1=>?_))));show(th,L,qv,hp,i1,one,hs,rfl,h2,h3,oI,A,λx H7 O it=>?_);obtain⟨px,vx,U,ex,rfl,g1,g2,Y⟩:=it;have dl:=Y.n;show !(zi g1 zL ?_);show !(zi g1 jc ?_);show !(a,ns,0,rfl,(fL.trans O).seq X,λi2=>?_);show(_,!(rfl,(by change(0:Int)<4;decide),rfl,!?_));by_cases g3:i2%4=3
   .refine ifT (qd (by change V.int (i2%4)=V.int 3;rw[g3])) ?_;show !(yx rfl,λps bJ=>?_);clear ps bJ H8 M x8 ps;show(yx rfl,λpf ai=>?_);clear pf ai H9 n9 x9 pf;have d1:=Du.in1 (q:= .sort "qq" U) (k:=U) rfl Y λn m=> .inr (by rw[wm.mp m];decide)
    have d2:=Du.in1 (q:= .first 3 (.sort "qq" U)) (k:= .sort "qq" U) rfl d1 trivial;show(.first 3 (.sort "qq" U),_,_,_,rfl,(O.trans (M.trans n9),(_,_,rfl,x9,_,_,rfl,n9 _ _ x8,(g2.same M).same n9),d2.l,by have:=d2.n;lia,by rw[d2.e];rfl,λz=>by rw[d2.e]at z;cases z))
   .refine ifF (wL λz=>g3 (by have z:V.int (i2%4)=V.int 3:=z;injection z)) ?_;show(U,_,_,_,rfl,(O,g2,Y.l,∅,by rw[Y.e];rfl,λz=>by rw[Y.e]at z;cases z))
  .refine ifF (wL g0) ?_;show(L,_,_,_,rfl,(zw.refl _,h2,A.f.lm,∅,by rw[A.f.ev];rfl,λv=>rfl))
 .rintro σ H7 ⟨q',S,iS,o5,rfl,⟨O,aW,lm,hsz,rfl,eq⟩⟩;show !(th,tr,p,rfl,TT,(f4.same mU).same O,λp8 H8 M f8=>?_);have Bg:=fL.trans (O.trans M);have fp:=((f4.same mU).same O).same M;show(4,rfl,(),(),z6F (lo:=0) (n:=(4:Int).toNat) (λi σ H'=>∃o7,σ= [AA (.ref a),AA (.ref p),AA (.ref p'),AA S,AA (.str (zf3 ((post q').findSome? (jK th)))),o5,AA (.ref p8),o7]/\Ev th C H8 H'/\Ls τ H') (AB,rfl,Ev.refl _,hL.same Bg) ?_ ?_)
  .rintro i σ H9 D hN _ hi ⟨o7,rfl,J,L9⟩;show !(!(!(th,tr,q',S,p8,i,by rw[w0G];rfl,TT,f8.ev J,(aW.same M).mono λb xs z=>J.tup z,lm,hsz,L9,λz=>by rw[eq z];show(vw,iM,iC),λaj ac Z=>?_)));show !(rfl,!?_);show ifF (by simp) ?_;show hN _ _ (_,rfl,J.trans ac,Z)
  .rintro σ H9 ⟨o7,rfl,J,L9⟩;show !(!(th,tr,p8,p,rfl,TT,f8.ev J,fp.ev J,!?_));show ifF (by rfl) ?_;show !(rfl,!?_);cases e0:(post q').findSome? (jK th)with
   | some e=>
    show ifT (by cases e<;>decide) ?_;show q _
   | none=>
    obtain rfl:=eq e0;show ifF () ?_;show !(!(th,tr,_,S,p8,rfl,f8.ev J,(aW.same M).mono λb xs z=>J.tup z,lm,hsz,L9,λv af aj eL Z ak=>?_,λe e1=>by rw[e0]at e1;cases e1));show !(zi (eL.tup (J.tup (M _ _ (O _ _ h1)))) jD (af,hp,_,rfl,ak,SqL.of (eL.lst (J.lst (M _ _ (O _ _ h3)))),wG (jM TT vw).2 (),q _))
end
structure DI(K:W.Frag)(x:Str)(st:Stmt)(f:AD):Prop where
 ex:∃fd,Fun K x x st f fd
 a:PySem.W.nsIn K AK x=AA (AA (.ref f))
 k:PySem.W.keepIn K (.ref f)=true
structure DL(K:W.Frag)(x:Str)(st:Stmt)(f T:AD):Prop where
 ex:∃fd c,Fun K x x st f fd/\fd.code= .ref c/\PySem.W.codeHdIn K c T=true
 a:PySem.W.nsIn K AK x=AA (AA (.ref f))
 k:PySem.W.keepIn K (.ref f)=true
structure Wd(P:AM)(w:Av)(K:W.Frag)(mg:Str->Option AC)(base:AN):Prop where
 ex:∃h:AN,K.In h/\h.Ns AK mg
 kb:K.In base
section
variable{K:W.Frag}{x y:Str}{st:Stmt}{f:AD}{k:Nat}{ps:List Str}{oc kV aY pm ag ct:AC}{od an:Option AD}{bW:Array (Option AC)}
def di(a:PySem.W.nsIn K AK x=AA (AA (.ref f)))(l:K.lookup f=AA (oc,od,.func (PySem.W.fnOf x x (z0B st) (jN st) (zj st) .none kV aY pm an ag ct),bW))(c:PySem.W.codeIn K ag x=true)(h:PySem.W.keepIn K (.ref f)=true):DI K x st f:=((_,z6n l c h),a,h)
theorem dl(a:PySem.W.nsIn K AK x=AA (AA (.ref f)))(l:K.lookup f=AA (oc,od,.func (PySem.W.fnOf x x (z0B st) (jN st) (zj st) .none kV aY pm an ag ct),bW))(c:PySem.W.codeIn K ag x=true)(h:PySem.W.keepIn K (.ref f)=true)(t:Lake.codeOf K ag T=true):DL K x st f T:=by
 obtain⟨b,rfl,z⟩:=Lake.codeOf_ex t;exact((_,b,z6n l c h,rfl,z),a,h)
def Wd.gl{v:AC}(W:Wd P w K mg base)(a:PySem.W.nsIn K AK x=AA (AA v)):mg x=AA v:=let ⟨_,X,G⟩:=W.ex;w0f X G a
theorem kn(W:Wd P w K mg base)(d:DI K x st f)(ok:∀{fd},Fun K x x st f fd->FnOk P w K mg base CX0 k f fd ps sp)(b:∀{fd},Fun K x x st f fd->Binds K fd ps []:=by exact λF=>F.binds λv v v v v v=>by first|exact zbc λv=>rfl|exact z7g λv v=>rfl|exact zd4 λv v v=>rfl|exact zdt λv v v v=>rfl):-Kn k x ps sp:=
 let ⟨_,F⟩:=d.ex
 (_,_,ok F,W.gl d.a,d.k,b F)
theorem knR(W:Wd P w K mg base)(d:DI K x st f)(ok:∀{fd},Fun K x x st f fd->(∀(kk:Nat)(c:Sp),FnOk P w K mg base CX0 kk f fd ps c->Kn P w K mg base kk x ps c)->FnOk P w K mg base CX0 k f fd ps sp)(b:autoParam (∀{fd},Fun K x x st f fd->Binds K fd ps []) kn._auto_1):-Kn k x ps sp:=
 let ⟨_,F⟩:=d.ex
 (_,_,ok F λv v h=>(_,_,h,W.gl d.a,d.k,b F),W.gl d.a,d.k,b F)
theorem knL(W:Wd P w K mg base)(d:DL K x st f T)(ok:∀{fd c},Fun K x x st f fd->fd.code= .ref c->PySem.W.CodeHd base c T->FnOk P w K mg base CX0 k f fd ps sp)(b:autoParam (∀{fd},Fun K x x st f fd->Binds K fd ps []) kn._auto_1):-Kn k x ps sp:=
 let ⟨_,_,F,hc,z⟩:=d.ex
 (_,_,ok F hc (w1J W.kb z),W.gl d.a,d.k,b F)
structure DM(K:W.Frag)(C:AD)(x y:Str)(st:Stmt)(f:AD):Prop where
 ex:∃fd,Fun K x y st f fd
 a:PySem.W.findIn K (.ref C) x=AA (AA (.ref f))
 n:PySem.W.isFn K (.ref f)=true
 k:PySem.W.keepIn K (.ref f)=true
structure DN(K:W.Frag)(C:AD)(x y:Str)(st:Stmt)(f T:AD):Prop where
 ex:∃fd c,Fun K x y st f fd/\fd.code= .ref c/\PySem.W.codeHdIn K c T=true
 a:PySem.W.findIn K (.ref C) x=AA (AA (.ref f))
 n:PySem.W.isFn K (.ref f)=true
structure DC(K:W.Frag)(x:Str)(C:AD):Prop where
 a:PySem.W.nsIn K AK x=AA (AA (.ref C))
 m:PySem.W.makesIn K C=true
 k:PySem.W.keepIn K (.ref C)=true
def dm(a:PySem.W.findIn K (.ref C) x=AA (AA (.ref f)))(l:K.lookup f=AA (oc,od,.func (PySem.W.fnOf x y (z0B st) (jN st) (zj st) .none kV aY pm an ag ct),bW))(c:PySem.W.codeIn K ag y=true)(h:PySem.W.keepIn K (.ref f)=true)(n:PySem.W.isFn K (.ref f)=true):DM K C x y st f:=((_,z6n l c h),a,n,h)
theorem dn(a:PySem.W.findIn K (.ref C) x=AA (AA (.ref f)))(l:K.lookup f=AA (oc,od,.func (PySem.W.fnOf x y (z0B st) (jN st) (zj st) .none kV aY pm an ag ct),bW))(c:PySem.W.codeIn K ag y=true)(h:PySem.W.keepIn K (.ref f)=true)(n:PySem.W.isFn K (.ref f)=true)(t:Lake.codeOf K ag T=true):DN K C x y st f T:=by
 obtain⟨b,rfl,z⟩:=Lake.codeOf_ex t;exact((_,b,z6n l c h,rfl,z),a,n)
def dc(a:PySem.W.nsIn K AK x=AA (AA (.ref C)))(m:PySem.W.makesIn K C=true)(h:PySem.W.keepIn K (.ref C)=true):DC K x C:=(a,m,h)
theorem knM(W:Wd P w K mg base)(c:Cls K C)(d:DM K C x y st f)(ok:∀{fd},Fun K x y st f fd->FnOk P w K mg base CX0 k f fd ps sp)(b:autoParam (∀{fd},Fun K x y st f fd->Binds K fd ps []) kn._auto_1):-KnM k x ps sp C:=
 let ⟨_,F⟩:=d.ex
 (c,_,_,(d.a,d.n,d.k),ok F,b F)
theorem knC{z:Str}(W:Wd P w K mg base)(e:DC K z C)(d:DM K C "__init__" y st f)(ok:∀{fd},Fun K "__init__" y st f fd->FnOk P w K mg base CX0 k f fd ps sp)(b:autoParam (∀{fd},Fun K "__init__" y st f fd->Binds K fd ps []) kn._auto_1):-KnC k z ps sp C:=
 let ⟨_,F⟩:=d.ex
 (_,_,(e.m,d.a,d.n,e.k),ok F,W.gl e.a,b F)
theorem knX(W:Wd P w K mg base)(d:DI K x st f)(ok:∀{fd},Fun K x x st f fd->FnOk P w K mg base (CXR P w) k f fd ps sp)(b:autoParam (∀{fd},Fun K x x st f fd->Binds K fd ps []) kn._auto_1):-KnX k x ps sp:=
 let ⟨_,F⟩:=d.ex
 (_,_,ok F,W.gl d.a,d.k,b F)
theorem zgT{sp:SpS}(W:Wd P w K mg base)(d:DI K x st f)(ok:∀{fd},Fun K x x st f fd->FnOkS P w K mg base (CXR P w) k f fd ps sp)(b:∀{fd},Fun K x x st f fd->Binds K fd ps []:=by exact λF=>F.binds λv v v v v v=>z7g λv v=>rfl):-KnS (CXR P w) k x ps sp:=
 let ⟨_,F⟩:=d.ex
 (_,_,ok F,W.gl d.a,d.k,b F)
theorem zgb(W:Wd P w K mg base)(d:DL K x st f T)(ok:∀{fd c},Fun K x x st f fd->fd.code= .ref c->PySem.W.CodeHd base c T->FnOk P w K mg base (CXR P w) k f fd ps sp)(b:∀{fd},Fun K x x st f fd->Binds K fd ps []:=by exact λF=>F.binds λv v v v v v=>z7g λv v=>rfl):-KnX k x ps sp:=
 let ⟨_,_,F,hc,z⟩:=d.ex
 (_,_,ok F hc (w1J W.kb z),W.gl d.a,d.k,b F)
theorem zgy{z:Str}(W:Wd P w K mg base)(e:DC K z C)(d:DN K C "__init__" y st f T)(ok:∀{fd c},Fun K "__init__" y st f fd->fd.code= .ref c->PySem.W.CodeHd base c T->FnOk P w K mg base (CXR P w) k f fd ps sp)(b:∀{fd},Fun K "__init__" y st f fd->Binds K fd ps []:=by exact λF=>F.binds λv v v v v v=>zd4 λv v v=>rfl):-KnCX k z ps sp C:=
 let ⟨_,_,F,hc,h⟩:=d.ex
 (_,_,(e.m,d.a,d.n,e.k),ok F hc (w1J W.kb h),W.gl e.a,b F)
end
variable{l:PySem.W.OpenLaw}
theorem all_mk{K:W.Frag}{h:AN}{J f0 f1 f2 f3 f4 f5 f6 f7 f8 f9 Bh Bi Bj Bk Bl Bm Bn Bo Bp Bq Br Bs Bt Bu Bv Bw Bx By Bz BA BB BC BD BE BF BG BH BI BJ BK BL BM BN BO BP BQ BR BS BT BU BV BW BX BY BZ C0 C3 C5 C6 C7 C8 C9 Cc Cd Cf Cg Ci Cj Cl Cm c f d q t j n p o:AD}(X:K.In h)(G:h.Ns AK mg)(Co:mg "law"=AA (.ref J))
  (Cp:DC K "Place" q)(b:PC K q)
  (Cr:DC K "Turner" t)(i:TC K t)
  (d0:DI K "number_of" z1V f0)
  (d1:DI K "compared" z2K f1)
  (d2:DI K "holds" z6x f2)
  (d3:DI K "columns_of" z1D f3)
  (d4:DI K "straight_within" kF f4)
  (d5:DI K "inner_first" z1d f5)
  (d6:DI K "built_up" z2N f6)
  (d7:DI K "heads_of_table" kZ f7)
  (d8:DI K "check_columns" z0o f8)
  (d9:DI K "each_once" z1T f9)
  (Cs:DI K "heads_over_one" kY Bh)
  (Ct:DI K "heads_over_two" z02 Bi)
  (Cu:DI K "heads_at" z2F Bj)
  (Cv:DL K "heads_of" z1t Bk d)
  (Cw:DI K "joined" z5a Bl)
  (Cy:DI K "grouped" z2e Bm)
  (Cz:DL K "in_order" z0R Bn c)
  (CA:DI K "rows_of_table" kf Bo)
  (CB:DI K "numbers_at" z0x Bp)
  (CD:DI K "paired" z35 Bq)
  (CF:DI K "rows_over_one" jX Br)
  (CG:DI K "rows_over_two" z0r Bs)
  (CI:DI K "rows_at" z3w Bt)
  (CJ:DI K "answer_at" z16 Bu)
  (CK:DL K "plain_answer" kI Bv f)
  (CM:DI K "_law_texts" z1v Bw)
  (CN:DI K "_law_whole" z1r Bx)
  (CO:DI K "_law_numbers" z0V By)
  (CP:DI K "_law_alike" z1F Bz)
  (CQ:DI K "_law_again" kO BA)
  (CS:DI K "_law_kept" z23 BB)
  (CT:DI K "_law_wide" z1R BC)
  (CU:DI K "_law_stocked" jT BD)
  (CV:DI K "_law_spelt" kE BE)
  (CW:DI K "_law_true" z0k BF)
  (CY:DI K "_law_asking" z1f BG)
  (CZ:DI K "_law_picked" z0d BH)
  (D0:DI K "_law_columns" yj BI)
  (D4:DI K "_law_sorted" z05 BJ)
  (D5:DI K "_law_headed" z1a BK)
  (D6:DI K "_law_doubled" z0W BL)
  (D7:DI K "_law_beside" z18 BM)
  (D8:DI K "_law_united" z08 BN)
  (D9:DI K "_law_counted" yh BO)
  (Da:DI K "_law_grown" z1B BP)
  (Db:DM K q "__init__" "Place.__init__" z0A BQ)
  (Dd:DI K "is_pick" z3v BR)
  (De:DI K "picked" z4q BS)
  (Df:DI K "among" z4b BT)
  (Dg:DI K "joined_by" z1X BU)
  (Dh:DI K "sent_to_a_part" kW BV)
  (Di:DI K "sent_within" z06 BW)
  (Dj:DI K "takes" z6q BX)
  (Dk:DI K "passes" z4Q BY)
  (Dl:DI K "turned_pick" z1j BZ)
  (Dm:DI K "turned_first" z0S C0)
  (Do:DI K "turned" z4z C3)
  (Dq:DI K "place_over" z0y C5)
  (Dr:DN K t "__init__" "Turner.__init__" z0c C6 Tb)
  (Dt:DM K t "go_within" "Turner.go_within" ki C7)
  (Dv:DM K t "go_back" "Turner.go_back" kT C8)
  (Dw:DM K t "turn" "Turner.turn" yW C9)
  (Dx:DM K t "whole" "Turner.whole" kJ Cc)
  (Dy:DI K "last_turning" z0L Cd)
  (Dz:DI K "clever_answer" z0s Cf)
  (DA:DI K "turnings" z2D Cg)
  (DB:DI K "_law_at" z3G Ci)
  (DD:DI K "_law_wrong" z1E Cj)
  (DE:DI K "_law_said" z22 Cl)
  (Z:DI K "law" z5Y Cm)
  (z0:PySem.W.nsIn K AK "isinstance"=AA AB)
  (z1:PySem.W.nsIn K AK "int"=AA AB)
  (z2:PySem.W.nsIn K AK "bool"=AA AB)
  (z3:PySem.W.nsIn K AK "list"=AA AB)
  (z4:PySem.W.nsIn K AK "tuple"=AA AB)
  (z5:PySem.W.nsIn K AK "str"=AA AB)
  (z6:PySem.W.nsIn K AK "len"=AA AB)
  (z7:PySem.W.nsIn K AK "range"=AA AB)
  (z8:PySem.W.nsIn K AK "min"=AA AB)
  (z9:PySem.W.nsIn K AK "max"=AA AB)
  (DF:PySem.W.nsIn K AK "sum"=AA AB)
  (DG:PySem.W.nsIn K AK "sorted"=AA AB)
  (DH:PySem.W.nsIn K AK "reversed"=AA AB)
  (DJ:PySem.W.nsIn K AK "zip"=AA AB)
  {A:AD}{DK:Option AD}{DO:Array (Option AC)}{nC:Nat}{t1 t2:Tok}(aC:PySem.W.nsIn K AK "COMPARISONS"=AA (AA (.ref A)))(lC:K.lookup A=AA (.type "tuple",DK,.seq #[.str "less" t1,.str "same" t2] nC,DO))
  {B:AD}{DP:Option AD}{DQ:Array (Option AC)}{nT:Nat}{t3 t4 t5:Tok}(aT:PySem.W.nsIn K AK "TWOFOLD"=AA (AA (.ref B)))(lT:K.lookup B=AA (.type "tuple",DP,.seq #[.str "pair" t3,.str "join" t4,.str "both" t5] nT,DQ))
  (zs:PySem.W.nsIn K AK "set"=AA AB)
  (DR:decide [d,f,c,Tb].Nodup=true)
  (DS:PySem.W.nsIn K AK "enumerate"=AA AB)(DT:PySem.W.nsIn K AK "all"=AA AB)
  (xA:PySem.W.nsIn K AK "AskError"=AA (AA (.ref Ca)))
  (DU:PySem.W.nsIn K AK "NoQuestion"=AA (AA (.ref Cq)))
  (DV:PySem.W.nsIn K AK "NoColumn"=AA (AA (.ref j)))
  (DW:PySem.W.nsIn K AK "NoTable"=AA (AA (.ref n)))
  (DX:PySem.W.nsIn K AK "TwoColumns"=AA (AA (.ref p)))
  (DY:PySem.W.nsIn K AK "NotAlike"=AA (AA (.ref o)))
  (zV:PySem.W.nsIn K AK "ValueError"=AA AB)
  (DZ:zfa K Ca Cq j n p o=true)
  :∃fd:A1,(∀(s:AE)(v:AC),BindsTo s fd ([v],[]) [("_law_script",v)])/\∀base:AN,K.In base->base.Ns AK mg->(∀T∈ [Tb,c,f,d],base.BuiltinsAt mg T)->FnOk l.prog w K mg base CX0 15 J fd ["_law_script"] (spLaw K (yP d f c Tb)):=by
 have e:=Co.symm.trans (w0f X G Z.a);cases e;have T:Txt K mg:=(qO X G z0,qO X G z1,qO X G z2,qO X G z3,qO X G z4,qO X G z5,qO X G z6,qO X G z7,qO X G z8,qO X G z9,qO X G DF,qO X G DG,qO X G DH,qO X G DJ);have R:TxtP K mg:=((A,w0f X G aC,λH=> .inr (_,_,_,lC,rfl,rfl,(by show 2<=AI;decide),.cons (_,rfl) (.cons (_,rfl) .nil))),qO X G zs,(B,w0f X G aT,λH=> .inr (_,_,_,lT,rfl,rfl,(by show 3<=AI;decide),.cons (_,rfl) (.cons (_,rfl) (.cons (_,rfl) .nil)))));have M:TxtM K mg:=(qO X G DT,qO X G DS);have TE:=zgY (mg:=mg) DZ (w0f X G xA) (w0f X G DU) (w0f X G DV) (w0f X G DW) (w0f X G DX) (w0f X G DY) (qO X G zV);obtain⟨fd,F⟩:=Z.ex;obtain⟨oc,od,kV,dc,pm,an,cd,ct,sl,rfl,lk,aE⟩:=id F.ex;refine(PySem.W.fnOf "law" "law" (z0B z5Y) (jN z5Y) (zj z5Y) .none kV dc pm an cd ct,λs v=> .of_eq rfl,λbase nI m x=>?_);have W:Wd l.prog w K mg base:=((h,X,G),nI);have n0:=kn W d0 λF=>z6H F T
 have n1:=kn W d1 λF=>z7F F T n0
 have n2:=kn W d2 λF=>zbT F T R n1
 have E:=kn W d3 λF=>z5i F T
 have L:=kn W d4 λF=>z2I F T R
 have n5:=kn W d5 λF=>z5b F T L
 have z:=zgT (sp:=(z3l l.prog w K mg base (z2s j n p o) 8)) W d6 λF=>z7H (k:=8) (by decide) F T n5 L
 have n7:=knX (sp:=(spHOT K (z2s j n p o))) W d7 λF=>z3i F T TE.tab (TE.ex .tab)
 have U:=knX (sp:=(spCheck K (z2s j n p o))) W d8 λF=>z3z F T TE.col (TE.ex .col)
 have Y:=knX (sp:=(spOnce K (z2s j n p o))) W d9 λF=>z71 F T R TE.two (TE.ex .two)
 have eL:=knX (sp:=(spOne K (z2s j n p o))) W Cs λF=>z3h F T U E Y
 have gW:=knX (sp:=(spTwo K (z2s j n p o))) W Ct λF=>z3g F T TE.alk (TE.ex .alike) U Y
 have n12:=knX (sp:=(spHeadsAt K (z2s j n p o))) W Cu λF=>z7X F T n7 eL gW
 have y:=zgb (sp:=(spHeadsOf K (z2s j n p o) (yP d f c Tb))) W Cv λF hc C=>z73 F T hc C (x _ (by simp[yP])) z n12
 have iP:=kn W Cw λF=>zax F T
 have E4:=kn W Cy λF=>z8e F T
 have E5:=knL (sp:=(spOrder K c)) W Cz λF hc C=>z80 F T hc C (x _ (by simp[yP]))
 have E6:=kn W CA λF=>z3q F T
 have E7:=kn W CB λF=>z5v F T
 have E8:=kn W CD λF=>zaL F T
 have E9:=kn (sp:=(spR1 K (yP d f c Tb))) W CF λF=>z3F F T n2 E7 E4 E5
 have Ea:=kn W CG λF=>z3B F T E8 iP
 have Eb:=kn (sp:=(spRowsAt K (yP d f c Tb))) W CI λF=>z8A F T E6 E9 Ea
 have Ec:=kn (sp:=(spAnswerAt K (yP d f c Tb))) W CJ λF=>z6C F T n12 Eb
 have vB:=zgb (sp:=(spPlain K (z2s j n p o) (yP d f c Tb))) W CK λF hc C=>z3T F T hc C (x _ (by simp[yP])) y z Ec
 have S:=kn W CM λF=>z5n F T
 have Ed:=kn W CN λF=>z5w F T
 have Ee:=kn W CO λF=>z3V F T Ed
 have Ef:=kn W CP λF=>z5f F T Ee
 have Eg:=kn W CQ λF=>z5d F T
 have Eh:=kn W CS λF=>z6U F T S Ef
 have Ei:=kn W CT λF=>z6y F T
 have Ej:=kn W CU λF=>z3Z F T
 have Ek:=knR (k:=7) W CV λF r=>z2x F T r 7
 have El:=knR (k:=7) W CW λF r=>z36 F T r 7
 have Em:=kn W CY λF=>z59 F T
 have O:=kn W CZ λF=>z56 F T Em El Ek
 have En:=kn W D0 λF=>z41 F T
 have Q:=kn W D4 λF=>z4s F T
 have N:=kn W D5 λF=>z4M F T
 have Eo:=kn W D6 λF=>z44 F T O
 have Ep:=kn W D7 λF=>z4i F T
 have Es:=kn W D8 λF=>z4p F T Q N
 have Et:=kn W D9 λF=>z3U F T
 have Eu:=kn W Da λF=>z5r F T O En Es Ep Eo N Et Q
 have u:=knC W Cp Db λF=>z5t F T b
 have vF:=kn (sp:=(spIsPick q)) W Dd λF=>z8R F T b
 have D:=kn W De λF=>za7 F T b u
 have Ew:=kn W Df λF=>zc9 F T M
 have Ex:=kn W Dg λF=>z6i F T b u
 have Ey:=kn W Dh λF=>z32 F T b u E Ew D Ex
 have I:=kn W Di λF=>z4t F T b u D Ey
 have Ez:=kn (sp:=(spTakes q)) W Dj λF=>zbp F T I
 have EA:=kn W Dk λF=>za5 F T b vF Ez
 have EB:=kn W Dl λF=>z4U F T b vF I EA D
 have EC:=kn W Dm λF=>z43 F T b u
 have mU:=kn W Do λF=>zak F T b u EB EC
 have nZ:=knX (sp:=(spPlaceOver q (z2s j n p o))) W Dq λF=>z5u F T b u n12
 have P:=zgy (sp:=(spTInit q t (z2s j n p o) (yP d f c Tb))) W Cr Dr λF hc C=>z4V F T i hc C (x _ (by simp[yP])) z nZ
 have fI:=knM (sp:=(spGoW q t)) W i.cls Dt λF=>z2u F T b i
 have ED:=knM (sp:=(spGoB q t)) W i.cls Dv λF=>z31 F T b i u
 have vH:=knM (sp:=(spTurn q t)) W i.cls Dw λF=>z51 F T M b i ED fI mU
 have vI:=knM (sp:=(spTWhole q t)) W i.cls Dx λF=>z45 F T b i
 have EE:=knX (sp:=(spLast q (z2s j n p o) (yP d f c Tb))) W Dy λF=>z42 F T P vH vI
 have EF:=knX (sp:=(spClever q (z2s j n p o) (yP d f c Tb))) W Dz λF=>z3p F T vB EE
 have EG:=knX (sp:=(spTurnings q (z2s j n p o) (yP d f c Tb))) W DA λF=>z7R F T P vH vI
 have EH:=kn W DB λF=>z8F F T
 have EI:=kn W DD λF=>z5x F T
 have EJ:=kn W DE λF=>z70 F T TE y vB EG EF
 exact zfp F T (zeM DR) Ei Ej Eu EH EI Eg EJ Eh y S
theorem walk{q:AM}{loose:List Str}{t:(Str->Option AC)->AN->Prop}{o:Av->AN->Prop}{d:DefRec}{K:Params->W.Frag}{b e c:AD}(hn:l.most=AA 63)(A:d.params.defaults= [])
  (r:∀(w:Av)(h:AN),o w h->(K w.params).In h/\∀T∈ [Tb,b,e,c],h.get? T=AA (PySem.W.tabObj #[]))(z:∀(w:Av),∀T∈ [Tb,b,e,c],Lake.codeTabIn (K w.params) T=true)(p:∀(w:Av),∀T∈ [Tb,b,e,c],(K w.params).lookup T=AB)
  (F:∀(w:Av)(mg:Str->Option AC)(j:AD)(h:AN),(K w.params).In h->h.Ns AK mg->mg d.name=AA (.ref j)->
   ∃fd:A1,(∀(s:AE)(u:AC),BindsTo s fd ([u],[]) [("_law_script",u)])/\∀base:AN,(K w.params).In base->base.Ns AK mg->(∀T∈ [Tb,b,e,c],base.BuiltinsAt mg T)->FnOk l.prog w (K w.params) mg base CX0 15 j fd ["_law_script"] (spLaw (K w.params) (yP c e b Tb))):
  PySem.W.WalkO q loose t o l.row.toRowW d [] (λf vs=>PySem.call f vs):=
 Lake.walk_ofT (n:=63) (k:=15) (x:="_law_script") (sp:=λw=>spLaw (K w.params) (yP c e b Tb)) hn (by decide) A (rfl,by decide,by decide) r z p F λv v a ns hl y i=>(a,ns,rfl,y,hl,.inl (i _ (by simp[yP])),.inl (i _ (by simp[yP])),.inl (i _ (by simp[yP])),.inl (i _ (by simp[yP])),λv=>rfl)
end Internal
end
structure PySem.W.Fast:Prop where
 (tw16706650493015345046 tw6857530588837996208 tw13703520101320547546 tw15504211618924924587 tw3480675160427300516 tw10549949126893130069 tw5178658965714926121 tw3631841134472309886 tw10009843397048995129 tw2837347002435110623 tw14842807304161648162 tw4211378584634217702 tw10200945429622838619 tw11146314316240176684 tw3124894715287942441 tw7239804823323849229 tw11874814832765116013 tw1755141480780985141 tw4697617181775099994 tw14787951781073480391 tw2138793750580307917 tw392568244525849232 tw1889707824234891141 tw15130767241639968210 tw1634749312966510553 tw18328092180440981677 tw9819272856471462900 tw17083087245407632079 tw3877435506499765114 tw15094815972779201421 tw6416549238350757777 tw14906156662276324211 tw11569466814616193908 tw3636912721481205667 tw763038332794274217 tw4520896552658845957 tw847778336471917977 tw6730746116454039738 tw15062439068463275687 tw3027675195048543223 tw11681375499007711127 tw16703102660921212301 tw15691039742871254705 tw15187033385895345241 tw4839215554896920897 tw219364606764492706 tw674523949001949224 tw5746816088450000184 tw9717794837336308769 tw9927313992217154858 tw9681230702548003422 tw13944525135398383175 tw1115644771311662522 tw12198806730178166426 tw18015036030796574385 tw15933262496712122697 tw17611185633151048890 tw14994752356577764426 tw3095167440789333705 tw4991275356766029488 tw12963385662552694598 tw9643809516819853578 tw13973252933744928195 tw4468234424263219942 tw207500053069874569 tw13875742192436859896 tw1722936798256083239 tw2350668588674261549 tw5741922395291052288 tw7417099282204270519 tw711167944743756039 tw7251334356716394949 tw901307624678064348 tw15957546361900475846 tw10193892798465812898 tw12191940996926016591 tw15860585879733814297 tw17827006008952895527 tw10238859560523804050 tw16126311400799410450 tw7193379263889917780 tw63002181489158820 tw4770459570436736226 tw14543068575576410226 tw2014254606063763489 tw11957245356593587939 tw3630477958861646462 tw10630063547791551498 tw9097098610629818675 tw18037242723006027596 tw1033661731814906052 tw5166582234090228005 tw14572571359453915405 tw9290082299600636566 tw13582509283748159888 tw8417499964194782673 tw3466671763139582520 tw9165909256923243300 tw11602401859489122802 tw13535589977654551201 tw11610974137759085835 tw6433269068559031389 tw12337400944354979413 tw8815421557933715508 tw15939429567509864193 tw8179757834316195514 tw12308898807515763922 tw3217489189543602831 tw5013924679488082642 tw4486255954365457456 tw4067661243358087812 tw8625289397811255993 tw13885344754712068917 tw2852355573722583621 tw3560040622096005021 tw139758016191018160 tw14521749437613015356 tw4127624538430022814 tw4745432384286261015 tw6871928018146386972 tw643294315439975612 tw15553889530547334189 tw9374967937283403454 tw5784064128153145757 tw18391423884334995998 tw9181822857415763640 tw18220522939059593142 tw5815929735978707951 tw14654797765107480097 tw15438169547679192171 tw13713788437181844875 tw7847518019331580296 tw5945667479021465253 tw3559002465813442097 tw7124336046695198045 tw4301379203084969573 tw14170386543921416997 tw11917969050770281388 tw13066031491458351869 tw10688671529518659776 tw14851697146985767626 tw17523249891515857798 tw17893139885153663660 tw10496999349003161812 tw15314211149272648 tw6188461270019628611 tw12736923419947631408 tw12696766003025942743 tw1261939419321980881 tw13840056731590121433 tw1192446612142696501 tw6980843721202007019 tw13572321610963809088 tw6466127095889787826 tw101001190157097383 tw17762666266287163556 tw11455201723751811874 tw18051474760699625634 tw10479523166103451999 tw8091506513799667818 tw6127312588371917868 tw11978956483394117267 tw2798102700363205479 tw6203312299524759008 tw16641412187851763390 tw5164747957334834061 tw4425355134693458291 tw14481269702724483412 tw17840059304038110030 tw5918984141038722378 tw8416949565274216079 tw6525569562198715597 tw16533487026080224245 tw10909939651443435780 tw14833434813808148515 tw7746910376135540119 tw17524462000231944815 tw6941721119395120672 tw11000624406134392519 tw10830831341349977224 tw31884354468725027 tw5301136358416468505 tw13278777923736090602 tw1272183764615628825 tw4264510077637143876 tw1202988692601959032 tw10562104276515128158 tw6774317948792566797 tw13818124245281819737 tw3904354209266637932 tw16187990907639023356 tw9545049071159902491 tw18329319330655508054 tw15093009687472131344 tw4229605625576921843 tw9755745163682109244 tw550384364684162540 tw206993944885676645 tw12272959660229924288 tw3523111820134705326 tw12826756911584905351 tw3187377203191015172 tw7832884222632820062 tw11992344764793249727 tw4047512668579272612 tw4347305376318968356 tw882363661408094742 tw17883776680131863970 tw15412174149170994181 tw9602153242197938726 tw13113248069415456982 tw5659203196513824109 tw4260834482617906028 tw8315875644894636173 tw6706343269964095603 tw17375274597794187240 tw14235509790972920307 tw11104335710356248604 tw11963816026687022249 tw8055389261118915912 tw6088465651583564109 tw2073149404343986066 tw17671236210053500289 tw5940732381717041715 tw248404781858831856 tw16048486100186829136 tw426117379703316045 tw7191236225686754586 tw16877569635503266748 tw12421202406806407733 tw17121781343969983126 tw3741661441355546744 tw17799403827756512774 tw9732571538573996715 tw15902732944315078466 tw12808931433541368244 tw7319669009088199476 tw9761525678990558354 tw9230583282650102608 tw6997386249668762808 tw7914175676950217015 tw2528631633072071092 tw17433256600964410023 tw7893186714794388176 tw650385457883355538 tw3116179172780775145 tw15640785498371673800 tw13716835980062952777 tw7920013597012459533 tw17296805183851053970 tw14347568638744404642 tw4747441565368667315 tw1418212792140134808 tw10237584067478797189 tw14335638620460096935 tw4395697823682686256 tw18214505516756357300 tw14262978452155621095 tw8102939111410719542:True)
open PySem PySem.W PyProof.Rows
set_option maxRecDepth 100000 in
set_option maxHeartbeats 0 in
theorem PySem.Challenge.cw_sheetask_k05_heads_and_refusals_holds : PySem.Challenge.rw_sheetask_k05_heads_and_refusals.Holds := by
 w_on;o_law;k_head;(case hw=>w_witness2)
 k_fill
 refine Internal.walk (l:=PySem.Challenge.rw_sheetask_k05_heads_and_refusals) rfl rfl (λw h Y=>⟨PySem.W.km_in_of Y,PySem.W.km_tabs_of Y⟩) (λw=>List.forall_mem_cons.mpr ⟨by kernel_rfl,List.forall_mem_cons.mpr ⟨by kernel_rfl,List.forall_mem_cons.mpr ⟨by kernel_rfl,List.forall_mem_cons.mpr ⟨by kernel_rfl,λv h=>nomatch h⟩⟩⟩⟩) (λw=>List.forall_mem_cons.mpr ⟨by kernel_rfl,List.forall_mem_cons.mpr ⟨by kernel_rfl,List.forall_mem_cons.mpr ⟨by kernel_rfl,List.forall_mem_cons.mpr ⟨by kernel_rfl,λv h=>nomatch h⟩⟩⟩⟩) ?F
 case F=>
  intro w mg fa h KX G hmg;refine' Internal.all_mk KX G hmg ?_ ?_ ?_ ?_ ?_ ?_ ?_ ?_ ?_ ?_ ?_ ?_ ?_ ?_ ?_ ?_ ?_ ?_ ?_ ?_ ?_ ?_ ?_ ?_ ?_ ?_ ?_ ?_ ?_ ?_ ?_ ?_ ?_ ?_ ?_ ?_ ?_ ?_ ?_ ?_ ?_ ?_ ?_ ?_ ?_ ?_ ?_ ?_ ?_ ?_ ?_ ?_ ?_ ?_ ?_ ?_ ?_ ?_ ?_ ?_ ?_ ?_ ?_ ?_ ?_ ?_ ?_ ?_ ?_ ?_ ?_ ?_ ?_ ?_ ?_ ?_ ?_ ?_ ?_ ?_ ?_ ?_ ?_ ?_ ?_ ?_ ?_ ?_ ?_ ?_ ?_ ?_ ?_ ?_ ?_ ?_ ?_ ?_ ?_ ?_ ?_ ?_ ?_ ?_
  all_goals first|(apply Internal.di;k_is;k_is;k_is;k_is)|(apply Internal.dl;k_is;k_is;k_is;k_is;kernel_rfl)|(apply Internal.dm;k_is;k_is;k_is;k_is;kernel_rfl)|(apply Internal.dn;k_is;k_is;k_is;k_is;kernel_rfl;kernel_rfl)|(apply Internal.dc;k_is;kernel_rfl;k_is)|(refine⟨⟨?_,?_,?_,?_⟩,?_,?_,?_,?_,?_⟩<;>(try delta Lake.NoAttr)<;>kernel_rfl)|(refine⟨⟨?_,?_,?_,?_⟩,?_,?_⟩<;>(try delta Lake.NoAttr)<;>kernel_rfl)|k_is|kernel_rfl|skip
#print axioms PySem.Challenge.cw_sheetask_k05_heads_and_refusals_holds

import PyProof.Rows.All
import Wide.All
import OpenK.AllK
import Wide.FinOn
import Lean
import PyProof.EqAt
import PyProof.EqKinds
import PyProof.TupleCall
import KE.KIsAll
import KE.KItem
import KE.KxBytes
import KE.KDictSum
import KE.KDictLaws
import KE.KSortAsk
import KE.KSortTup
import KE.KLam
import KE.KNestM
import KE.KRevIter
import KE.KDictList
import PyProof.ExcArgs
import PyProof.Rows.StrCase
import PyProof.Rows.SetFrom
import PyProof.SetRoads
import PyProof.AutoSeq1
import PyProof.EnumFor
import PyProof.EnumMake
import PyProof.EnumStmt
import PyProof.Rows.EnumRows
import PyProof.ConsumeWalk
import KE.KTryMore
import PyProof.ExcArgs
import PyProof.ZipIter
import PySem.Challenge.RW_sheetask_k13_whole_one_turning_each
set_option Elab.async false
set_option linter.all false
set_option maxRecDepth 100000
section
open PySem PySem.Spec PyProof.Rows
theorem w9:type_of% @List.length_map:=@List.length_map
theorem we:type_of% @List.getElem?_eq_getElem:=@List.getElem?_eq_getElem
theorem wg:type_of% @List.length_append:=@List.length_append
theorem wk:type_of% @List.getElem?_eq_some_iff:=@List.getElem?_eq_some_iff
def wo:type_of% @Heap.get?_push_of_some:=@Heap.get?_push_of_some
theorem wu:type_of% @Nat.le_refl:=@Nat.le_refl
theorem ww:type_of% @List.getD_eq_getElem?_getD:=@List.getD_eq_getElem?_getD
theorem wz:type_of% @List.mem_singleton:=@List.mem_singleton
theorem wA:type_of% @List.mem_append:=@List.mem_append
theorem wB:type_of% @List.size_toArray:=@List.size_toArray
def wC:type_of% @wpAny_bind:=@wpAny_bind
theorem wG:type_of% @List.mem_append_right:=@List.mem_append_right
theorem wH:type_of% @List.mem_cons:=@List.mem_cons
theorem wI:type_of% @List.getElem_mem:=@List.getElem_mem
theorem wJ:type_of% @List.length_singleton:=@List.length_singleton
theorem wK:type_of% @List.map_append:=@List.map_append
theorem wL:type_of% @decide_eq_false:=@decide_eq_false
theorem wN:type_of% @Heap.lt_size:=@Heap.lt_size
def wO:type_of% @PyProof.Rows.boot_isinstance:=@PyProof.Rows.boot_isinstance
theorem wP:type_of% @List.length_cons:=@List.length_cons
theorem wQ:type_of% @List.getElem?_map:=@List.getElem?_map
theorem wS:type_of% @decide_eq_true:=@decide_eq_true
theorem wT:type_of% @Bool.false_ne_true:=@Bool.false_ne_true
theorem wU:type_of% @if_neg:=@if_neg
theorem wV:type_of% @List.mem_cons_of_mem:=@List.mem_cons_of_mem
def wW:type_of% @Nat.le_trans:=@Nat.le_trans
theorem wX:type_of% @List.length_take:=@List.length_take
theorem wY:type_of% @if_pos:=@if_pos
theorem wZ:type_of% @Nat.lt_of_lt_of_le:=@Nat.lt_of_lt_of_le
theorem q5:type_of% @List.take_add_one:=@List.take_add_one
theorem qc:type_of% @List.mem_append_left:=@List.mem_append_left
def qd:type_of% @wpAny_pure:=@wpAny_pure
theorem qe:type_of% @Nat.ne_of_lt:=@Nat.ne_of_lt
def qi:type_of% @Heap.get?_push_size:=@Heap.get?_push_size
theorem qj:type_of% @ne_of_beq_false:=@ne_of_beq_false
theorem qz:type_of% @List.not_mem_nil:=@List.not_mem_nil
theorem qA:type_of% @List.mem_of_getElem?:=@List.mem_of_getElem?
def qB:type_of% @PySem.F.plainAttrs_list:=@PySem.F.plainAttrs_list
def qD:type_of% @of_decide_eq_true:=@of_decide_eq_true
def qE:type_of% @List.length_filter_le:=@List.length_filter_le
def qF:type_of% @List.mem_cons_self:=@List.mem_cons_self
theorem qH:type_of% @List.take_length:=@List.take_length
theorem qI:type_of% @List.mem_map:=@List.mem_map
theorem qJ:type_of% @List.lookup_cons:=@List.lookup_cons
theorem qK:type_of% @List.map_cons:=@List.map_cons
def qM:type_of% @PySem.W.mg_none_of:=@PySem.W.mg_none_of
def qO:type_of% @Nat.le_of_ble_eq_true:=@Nat.le_of_ble_eq_true
theorem qQ:type_of% @List.all_eq_true:=@List.all_eq_true
def qR:type_of% @PyProof.Rows.boot_list:=@PyProof.Rows.boot_list
theorem qS:type_of% @List.getElem?_append_right:=@List.getElem?_append_right
theorem qU:type_of% @List.getElem?_append_left:=@List.getElem?_append_left
theorem qV:type_of% @List.filter_cons_of_pos:=@List.filter_cons_of_pos
def qX:type_of% @List.idxOf_lt_length_iff:=@List.idxOf_lt_length_iff
def Q0:type_of% @PyProof.Rows.boot_str:=@PyProof.Rows.boot_str
theorem Q2:type_of% @Bool.and_eq_true:=@Bool.and_eq_true
theorem Q3:type_of% @List.append_nil:=@List.append_nil
def Q6:type_of% @Nat.zero_le:=@Nat.zero_le
def Q9:type_of% @Heap.get?_update_other:=@Heap.get?_update_other
theorem Qa:type_of% @List.sum_cons:=@List.sum_cons
def Qb:type_of% @PyProof.Rows.callWith_type1:=@PyProof.Rows.callWith_type1
def Qc:type_of% @PyProof.Rows.slot_tuple_getitem:=@PyProof.Rows.slot_tuple_getitem
theorem Qd:type_of% @Nat.lt_succ_of_lt:=@Nat.lt_succ_of_lt
def Qf:type_of% @PySem.F.slot_list_index:=@PySem.F.slot_list_index
def Qg:type_of% @PyProof.Rows.boot_tuple:=@PyProof.Rows.boot_tuple
theorem Qi:type_of% @Bool.eq_false_iff:=@Bool.eq_false_iff
def Qj:type_of% @congrArg:=@congrArg
def Qm:type_of% @PySem.mem_of_lookup:=@PySem.mem_of_lookup
theorem Qo:type_of% @List.length_nil:=@List.length_nil
theorem Qp:type_of% @List.mem_range:=@List.mem_range
theorem Qq:type_of% @Heap.size_push:=@Heap.size_push
theorem Qt:type_of% @beq_iff_eq:=@beq_iff_eq
def Qu:type_of% @PySem.F.type_list_index:=@PySem.F.type_list_index
theorem Qv:type_of% @List.append_assoc:=@List.append_assoc
theorem Qw:type_of% @Nat.mul_add:=@Nat.mul_add
def Qx:type_of% @wpAny_Call_Name_kw:=@wpAny_Call_Name_kw
theorem Qy:type_of% @List.take_of_length_le:=@List.take_of_length_le
def Qz:type_of% @List.mem_filter:=@List.mem_filter
def QB:type_of% @PySem.W.kia_one:=@PySem.W.kia_one
theorem QC:type_of% @Nat.lt_irrefl:=@Nat.lt_irrefl
theorem QD:type_of% @or_false:=@or_false
def QE:type_of% @Nat.mul_le_mul_left:=@Nat.mul_le_mul_left
theorem QH:type_of% @Int.zero_add:=@Int.zero_add
def QJ:type_of% @List.length_eq_zero_iff:=@List.length_eq_zero_iff
def QK:type_of% @List.mem_of_mem_take:=@List.mem_of_mem_take
def QL:type_of% @Nat.mul_le_mul_right:=@Nat.mul_le_mul_right
theorem QN:type_of% @Nat.ne_of_gt:=@Nat.ne_of_gt
def QO:type_of% @Or.inr:=@Or.inr
def QR:type_of% @wpAny_mono:=@wpAny_mono
theorem QS:type_of% @List.nodup_append:=@List.nodup_append
theorem QT:type_of% @List.reverse_cons:=@List.reverse_cons
def QU:type_of% @List.length_pos_iff:=@List.length_pos_iff
def QV:type_of% @wpAny_holding:=@wpAny_holding
theorem QW:type_of% @List.pairwise_iff_getElem:=@List.pairwise_iff_getElem
theorem QY:type_of% @List.sum_nil:=@List.sum_nil
def QZ:type_of% @PySem.F.slot_list_pop:=@PySem.F.slot_list_pop
def w00:type_of% @PySem.F.type_list_pop:=@PySem.F.type_list_pop
def w01:type_of% @Calls.spliced_cons:=@Calls.spliced_cons
def w02:type_of% @Or.inl:=@Or.inl
theorem w04:type_of% @sizeLine_eq:=@sizeLine_eq
theorem w05:type_of% @Nat.lt_succ_self:=@Nat.lt_succ_self
theorem w06:type_of% @beq_self_eq_true:=@beq_self_eq_true
theorem w07:type_of% @Nat.add_mul:=@Nat.add_mul
theorem w08:type_of% @List.dropLast_concat:=@List.dropLast_concat
theorem w0b:type_of% @List.filter_cons_of_neg:=@List.filter_cons_of_neg
theorem w0f:type_of% @PyProof.Rows.F.plain_set_update_loop:=@PyProof.Rows.F.plain_set_update_loop
theorem w0h:type_of% @List.flatMap_cons:=@List.flatMap_cons
def w0i:type_of% @beq_eq_false_iff_ne:=@beq_eq_false_iff_ne
theorem w0k:type_of% @Bool.eq_iff_iff:=@Bool.eq_iff_iff
theorem w0l:type_of% @List.nodup_cons:=@List.nodup_cons
theorem w0n:type_of% @List.length_reverse:=@List.length_reverse
theorem w0o:type_of% @List.filter_map:=@List.filter_map
theorem w0p:type_of% @List.filter_eq_nil_iff:=@List.filter_eq_nil_iff
def w0s:type_of% @True.intro:=@True.intro
def w0u:type_of% @codeAny_mono:=@codeAny_mono
theorem w0v:type_of% @List.length_replicate:=@List.length_replicate
theorem w0w:type_of% @List.filter_append:=@List.filter_append
def w0y:type_of% @Nat.mul_le_mul:=@Nat.mul_le_mul
theorem w0A:type_of% @List.take_zero:=@List.take_zero
theorem w0B:type_of% @if_false:=@if_false
def w0D:type_of% @wpAny_truthy_bool:=@wpAny_truthy_bool
def w0E:type_of% @wpAny_passesOwn:=@wpAny_passesOwn
def w0G:type_of% @wpAny_newObj_type:=@wpAny_newObj_type
def w0H:type_of% @pushCells_keeps:=@pushCells_keeps
def w0I:type_of% @List.filter_congr:=@List.filter_congr
theorem w0K:type_of% @Array.length_toList:=@Array.length_toList
theorem w0N:type_of% @List.map_take:=@List.map_take
theorem w0O:type_of% @List.flatMap_append:=@List.flatMap_append
theorem w0P:type_of% @List.length_drop:=@List.length_drop
theorem w0R:type_of% @List.getElem?_set_self:=@List.getElem?_set_self
theorem w0S:type_of% @if_true:=@if_true
def w0T:type_of% @PySem.W.callWith_K:=@PySem.W.callWith_K
theorem w0U:type_of% @List.filter_filter:=@List.filter_filter
theorem w0W:type_of% @List.map_nil:=@List.map_nil
theorem w0X:type_of% @Heap.get?_update_self:=@Heap.get?_update_self
theorem w0Y:type_of% @List.find?_cons:=@List.find?_cons
def w10:type_of% @F.called_set:=@F.called_set
theorem w11:type_of% @List.map_map:=@List.map_map
def w12:type_of% @PyProof.Rows.boot_sum:=@PyProof.Rows.boot_sum
def w14:type_of% @Calls.spliced_nil:=@Calls.spliced_nil
theorem w15:type_of% @Bool.true_and:=@Bool.true_and
theorem w16:type_of% @Str.length_append:=@Str.length_append
theorem w17:type_of% @List.getElem_toArray:=@List.getElem_toArray
theorem w1a:type_of% @List.drop_zero:=@List.drop_zero
def w1b:type_of% @List.any_eq_true:=@List.any_eq_true
def w1c:type_of% @decide_eq_decide:=@decide_eq_decide
theorem w1g:type_of% @List.filter_eq_self:=@List.filter_eq_self
def w1h:type_of% @List.map_congr_left:=@List.map_congr_left
theorem w1i:type_of% @Nat.one_mul:=@Nat.one_mul
theorem w1n:type_of% @Nat.sub_self:=@Nat.sub_self
theorem w1o:type_of% @Nat.zero_add:=@Nat.zero_add
theorem w1p:type_of% @Ne.symm:=@Ne.symm
theorem w1r:type_of% @List.any_cons:=@List.any_cons
def w1t:type_of% @wpAny_ite_split:=@wpAny_ite_split
theorem w1v:type_of% @Nat.not_lt_zero:=@Nat.not_lt_zero
theorem w1B:type_of% @Bool.false_and:=@Bool.false_and
def w1E:type_of% @Nat.le_of_lt:=@Nat.le_of_lt
def w1J:type_of% @wpAny_call:=@wpAny_call
theorem w1L:type_of% @Nat.mul_one:=@Nat.mul_one
end
namespace L2
open PySem PySem.Spec PyProof.Rows
abbrev Key:=Sum Int Str
noncomputable def z4L:Key->Value->Bool
 | .inl k,v=>Value.isInt k v
 | .inr x,v=>Value.isStrOf x v
noncomputable def zfp(w:World):Key->Int
 | .inl k=>hashInt k
 | .inr x=>hashStr w x
theorem jN:∀{k:Key} {v:Value},z4L k v=true->(∃i t,k=Sum.inl i/\v=Value.int i t)\/(∃x t,k=Sum.inr x/\v=Value.str x t)
 | .inl i,v,h=>by
  obtain⟨t,e⟩:=Value.isInt_shape (k:=i) (v:=v) h;exact .inl ⟨i,t,rfl,e⟩
 | .inr x,v,h=>by
  obtain⟨t,e⟩:=Value.isStrOf_shape (x:=x) (v:=v) h;exact .inr ⟨x,t,rfl,e⟩
theorem z9m(i:Int)(t:Tok):z4L (.inl i) (.int i t)=true:=by simp [z4L,Value.isInt]
theorem z9U(x:Str)(t:Tok):z4L (.inr x) (.str x t)=true:=by simp [z4L,Value.isStrOf]
theorem zdW(a b:Int):decide ((Sum.inl a:Key)=Sum.inl b)=(a == b):=by
 by_cases e:a=b
 ·subst e;simp
 ·have h:¬(Sum.inl a:Key)=Sum.inl b:=λq=>e (Sum.inl.inj q)
  rw [wL h];exact(w0i.mpr e).symm
theorem zds(a b:Str):decide ((Sum.inr a:Key)=Sum.inr b)=decide (a=b):=by
 by_cases e:a=b
 ·subst e;simp
 ·have h:¬(Sum.inr a:Key)=Sum.inr b:=λq=>e (Sum.inr.inj q)
  rw [wL h,wL e]
theorem ze2(a:Int)(b:Str):decide ((Sum.inl a:Key)=Sum.inr b)=false:=wL (λq=>nomatch q)
theorem zdB(a:Str)(b:Int):decide ((Sum.inr a:Key)=Sum.inl b)=false:=wL (λq=>nomatch q)
noncomputable def jE(prog:Program)(w:World):PySem.KeyKind prog w Key where
 is:=z4L
 hash:=zfp w
 inj:=λv a b ha d=>by
  rcases jN ha with⟨i,t,rfl,rfl⟩ | ⟨x,t,rfl,rfl⟩
  ·rcases jN d with⟨j,u,rfl,e⟩ | ⟨y,u,rfl,e⟩
   ·injection e with e1 _;rw [e1]
   ·exact nomatch e
  ·rcases jN d with⟨j,u,rfl,e⟩ | ⟨y,u,rfl,e⟩
   ·exact nomatch e
   ·injection e with e1 _;rw [e1]
 byValue:=λk v h=>by
  rcases jN h with⟨i,t,rfl,rfl⟩ | ⟨x,t,rfl,rfl⟩ <;> rfl
 pyHash:=λc h=>by
  rcases jN c with⟨i,t,rfl,rfl⟩ | ⟨x,t,rfl,rfl⟩
  ·exact wpAny_pyHash_int h
  ·exact wpAny_pyHash_str h
 eqBool:=λf c h=>by
  rcases jN f with⟨i,t,rfl,rfl⟩ | ⟨x,t,rfl,rfl⟩
  ·rcases jN c with⟨j,u,rfl,rfl⟩ | ⟨y,u,rfl,rfl⟩
   ·rw [zdW]at h;exact wpAny_eqBool_int h
   ·rw [ze2]at h;exact SeqAt.EqAt.int_str i t y u _ _ _ _ h
  ·rcases jN c with⟨j,u,rfl,rfl⟩ | ⟨y,u,rfl,rfl⟩
   ·rw [zdB]at h;exact SeqAt.EqAt.str_int x t j u _ _ _ _ h
   ·rw [zds]at h;exact wpAny_eqBool_str h
 «strs»:=λk x t v h=>by
  rcases jN h with⟨i,u,rfl,e⟩ | ⟨y,u,rfl,e⟩
  ·exact nomatch e
  ·injection e with e1 _
   subst e1;cases v <;> rfl
def z7f(prog:Program)(w:World)(i:Int)(t:Tok):(jE prog w).is (.inl i) (.int i t)=true:=z9m i t
def z6Q(prog:Program)(w:World)(x:Str)(t:Tok):(jE prog w).is (.inr x) (.str x t)=true:=z9U x t
inductive V where
 | non | bl (b:Bool) | int (i:Int) | str (x:Str) | byt (b:Array UInt8) | flt (b:UInt64) | ref (a:Addr) | ty (n:String)
 deriving DecidableEq
def RelV:V->Value->Prop
 | .non,u=>u=Value.none
 | .bl b,u=>u=Value.bool b
 | .int i,u=>∃t,u=Value.int i t
 | .str x,u=>∃t,u=Value.str x t
 | .byt b,u=>∃t,u=Value.bytes b t
 | .flt b,u=>∃t,u=Value.float b t
 | .ref a,u=>u=Value.ref a
 | .ty n,u=>u=Value.type n
abbrev zQ:List V->List Value->Prop:=Paired RelV
variable{xs:List V}{us:List Value}
theorem zQ.length(r:zQ xs us):xs.length=us.length:=Paired.length r
theorem zQ.get:∀{xs:List V} {us:List Value} {i:Nat} {x:V},zQ xs us->xs[i]? =some x->∃u,us[i]? =some u/\RelV x u
 | _,_,_,_,.nil,e=>by simp at e
 | _,_,0,_,.cons r _,e=>by simp at e;subst e;exact⟨_,rfl,r⟩
 | _,_,i + 1,x,.cons _ t,e=>by
  obtain⟨u,h1,h2⟩:=zQ.get (i:=i) (x:=x) t (by simpa using e);exact⟨u,by simpa using h1,h2⟩
variable{u:Value}{x:V}
theorem zQ.set(r:RelV x u):∀{xs:List V} {us:List Value} (i:Nat),zQ xs us->zQ (xs.set i x) (us.set i u)
 | _,_,_,.nil=> .nil
 | _,_,0,.cons _ t=> .cons r t
 | _,_,i + 1,.cons q t=> .cons q (zQ.set r i t)
def zQ.append:∀{xs ys:List V} {us ws:List Value},zQ xs us->zQ ys ws->zQ (xs ++ ys) (us ++ ws)
 | _,_,_,_,.nil,s=>s
 | _,_,_,_,.cons r t,s=> .cons r (zQ.append t s)
theorem zQ.take:∀{xs:List V} {us:List Value} (n:Nat),zQ xs us->zQ (xs.take n) (us.take n)
 | _,_,0,_=> .nil
 | _,_,_ + 1,.nil=> .nil
 | _,_,n + 1,.cons r t=> .cons r (zQ.take n t)
theorem zQ.drop:∀{xs:List V} {us:List Value} (n:Nat),zQ xs us->zQ (xs.drop n) (us.drop n)
 | _,_,0,r=>r
 | _,_,_ + 1,.nil=> .nil
 | _,_,n + 1,.cons _ t=>zQ.drop n t
def z2g:Option V->Option Value->Prop
 | some v,some u=>RelV v u
 | none,none=>True
 | _,_=>False
variable{κ:Type}
def KV:List (κ×V)->List (κ×Value)->Prop:=Paired λ(p:κ×V) (q:κ×Value)=>p.1=q.1/\RelV p.2 q.2
noncomputable def kV:Key->V
 | .inl i=> .int i
 | .inr x=> .str x
inductive HO where
 | lst (xs:List V)
 | tup (xs:List V)
 | dK (kvs:List (Key×V)) | dT (kvs:List (List Key×V))
 | set (S:Int->Bool) (n:Nat)
 | ins (C dx:Addr) (fs:List (Str×V))
 | own (x:Addr)
 | xd (fs:List (Str×V))
 | met (f x:Addr)
 | rng (lo hi:Int)
 | frz (o:Obj) (u:HO)
 | tbl (ps:Array Value)
 | ext (φ:Heap->Prop)
abbrev Hp:=Addr->Option HO
noncomputable def upd(H:Hp)(a:Addr)(o:HO):Hp:=λb=>if b=a then some o else H b
variable{H:Hp}{a:Addr}{o:HO}
theorem zl:upd H a o a=some o:=by unfold upd;rw [wY rfl]
variable{b:Addr}
theorem zn(h:b≠a):upd H a o b=H b:=by unfold upd;rw [wU h]
theorem z5G{u:HO}(h:H a=some o)(h':H b=some u)(d:o≠u):a≠b:=by
 intro e;subst e;rw [h]at h';exact d (Option.some.inj h')
theorem zy(h:H a=some o)(h':H b=none):a≠b:=by
 intro e;subst e;rw [h]at h';cases h'
section
variable(P:Program)(w:World)
def jm(H:Hp)(h:Heap)(a:Addr):HO->Prop
 | .lst xs=>xs.length<=sizeLine/\∃(its:List Value) (n:Nat),zQ xs its/\h.get? a=some {cls:= .type "list",data:= .seq its.toArray n}
 | .tup xs=>xs.length<=sizeLine/\∃its:List Value,zQ xs its/\IsTup h a its.toArray
 | .dK kvs=>kvs.length<=sizeLine/\(a == sysModules)=false/\∃vs,KV kvs vs/\h.DictOf (jE P w) a vs
 | .dT kvs=>kvs.length<=sizeLine/\(a == sysModules)=false/\∃xs:List (List Key×Addr×Value),
   Paired (λ(p:List Key×V) (q:List Key×Addr×Value)=>p.1=q.1/\H q.2.1=some (.tup (p.1.map kV))/\RelV p.2 q.2.2) kvs xs/\
   ∃o es ep,h.get? a=some o/\o.ExactDict/\o.data= .dict es ep/\es.toList=xs.map (entryOfKey (tupleKind (jE P w)))/\(xs.map (·.1)).Nodup
 | .set S n=>h.SetOf (intKind P w) a S n
 | .ins C dx fs=>H dx=some (.own a)/\fs.length<=1000/\dx≠a/\h.get? a=some (PySem.W.instObj C dx)/\
   ∃mA,h.Ns1 dx mA/\(∀f,z2g (fs.lookup f) (mA f))/\PySem.Within mA (fs.map (·.1))
 | .own _=>∃o,h.get? a=some o
 | .xd fs=>∃mA,h.Ns1 a mA/\∀f,z2g (fs.lookup f) (mA f)
 | .rng lo hi=>∃t u v,h.get? a=some {cls:= .type "range",data:= .fields #[.int lo t,.int hi u,.int 1 v]}
 | .frz o u=>h.get? a=some o/\jm H h a u
 | .tbl ps=>h.get? a=some {cls:= .none,data:= .fields ps}
 | .met f x=>h.get? a=some (PySem.W.methodObj (.ref f) (.ref x))
 | .ext φ=>φ h/\(∃o,h.get? a=some o)/\∀h1 h2:Heap,φ h1->(∀o,h1.get? a=some o->h2.get? a=some o)->φ h2
def HOk(H:Hp)(h:Heap):Prop:=∀a o,H a=some o->jm P w H h a o
end
variable{P:Program}{w:World}{H':Hp}{h h':Heap}
theorem jm.lt(x:jm P w H h a o):a < h.objs.size:=by
 cases o with
 | lst xs=>obtain⟨_,_,_,_,e⟩:=x;exact wN e
 | tup xs=>obtain⟨_,_,_,p⟩:=x;exact p.lt
 | dK kvs=>obtain⟨_,_,_,_,o,_,_,e,_⟩:=x;exact wN e
 | dT kvs=>obtain⟨_,_,_,_,o,_,_,e,_⟩:=x;exact wN e
 | set S n=>obtain⟨o,_,_,_,e,_⟩:=x;exact wN e
 | ins C dx fs=>obtain⟨_,_,_,e,_⟩:=x;exact wN e
 | own y=>obtain⟨_,e⟩:=x;exact wN e
 | xd fs=>obtain⟨_,⟨_,_,_,e,_⟩,_⟩:=x;exact wN e
 | rng lo hi=>obtain⟨_,_,_,e⟩:=x;exact wN e
 | frz b u=>obtain⟨e,_⟩:=x;exact wN e
 | tbl ps=>exact wN (show h.get? a=some _ from x)
 | met f y=>exact wN (show h.get? a=some _ from x)
 | ext φ=>obtain⟨_,⟨_,e⟩,_⟩:=x;exact wN e
def Paired.mapP{α β:Type}{F G:α->β->Prop}:∀{l₁:List α} {l₂:List β},Paired F l₁ l₂->(∀a b,F a b->G a b)->Paired G l₁ l₂
 | _,_,.nil,_=> .nil
 | _,_,.cons r t,f=> .cons (f _ _ r) (Paired.mapP t f)
theorem jm.stay(x:jm P w H h a o)(k:∀b u,(b=a\/H b=some (.own a))->h.get? b=some u->h'.get? b=some u)
  (s:∀b,H b=some (.own a)->H' b=some (.own a)) (ht:∀b xs,H b=some (.tup xs)->H' b=some (.tup xs)):jm P w H' h' a o:=by
 induction o with
 | lst xs=>obtain⟨z,its,n,r,e⟩:=x;exact⟨z,its,n,r,k _ _ (.inl rfl) e⟩
 | tup xs=>obtain⟨z,its,r,i,e,c⟩:=x;exact⟨z,its,r,i,k _ _ (.inl rfl) e,c⟩
 | dK kvs=>obtain⟨z,y,vs,r,i,es,ep,e,c⟩:=x;exact⟨z,y,vs,r,i,es,ep,k _ _ (.inl rfl) e,c⟩
 | dT kvs=>
  obtain⟨z,y,xs,r,i,es,ep,e,c⟩:=x;exact⟨z,y,xs,Paired.mapP r λp q z=>⟨z.1,ht _ _ z.2.1,z.2.2⟩,i,es,ep,k _ _ (.inl rfl) e,c⟩
 | set S n=>obtain⟨i,es,ep,t,e,c⟩:=x;exact⟨i,es,ep,t,k _ _ (.inl rfl) e,c⟩
 | ins C dx fs=>
  obtain⟨d,z,ne,e,mA,⟨od,es,ep,l,c⟩,r⟩:=x;exact⟨s _ d,z,ne,k _ _ (.inl rfl) e,mA,⟨od,es,ep,k _ _ (.inr d) l,c⟩,r⟩
 | own y=>obtain⟨i,e⟩:=x;exact⟨i,k _ _ (.inl rfl) e⟩
 | xd fs=>obtain⟨mA,⟨od,es,ep,e,c⟩,r⟩:=x;exact⟨mA,⟨od,es,ep,k _ _ (.inl rfl) e,c⟩,r⟩
 | rng lo hi=>obtain⟨t,u,v,e⟩:=x;exact⟨t,u,v,k _ _ (.inl rfl) e⟩
 | frz i u j=>obtain⟨e,q⟩:=x;exact⟨k _ _ (.inl rfl) e,j q⟩
 | tbl ps=>
  have e:h.get? a=some {cls:= .none,data:= .fields ps}:=x
  show h'.get? a=some {cls:= .none,data:= .fields ps}
  exact k a _ (.inl rfl) e
 | met f y=>
  have e:h.get? a=some (PySem.W.methodObj (.ref f) (.ref y)):=x
  show h'.get? a=some (PySem.W.methodObj (.ref f) (.ref y))
  exact k a _ (.inl rfl) e
 | ext φ=>obtain⟨p,⟨o,e⟩,st⟩:=x;exact⟨st _ _ p λo q=>k _ _ (.inl rfl) q,⟨o,k _ _ (.inl rfl) e⟩,st⟩
def HOk.lt(x:HOk P w H h)(e:H a=some o):a < h.objs.size:=(x a o e).lt
theorem HOk.fresh(x:HOk P w H h)(e:h.objs.size<=a):H a=none:=by
 cases q:H a with
 | none=>rfl
 | some u=>exact absurd (wZ (x.lt q) e) (QC _)
def HOk.kept(x:HOk P w H h)(k:∀b u,h.get? b=some u->h'.get? b=some u):HOk P w H h':=λa o e=>
 (x a o e).stay (λb u _ q=>k b u q) (λ_ q=>q) λ_ _ q=>q
theorem HOk.laid(x:HOk P w H h)(k:∀b u,h.get? b=some u->h'.get? b=some u)(hp:h.objs.size<=a)(new:jm P w (upd H a o) h' a o):HOk P w (upd H a o) h':=λb u e=>by
 have hn:=x.fresh hp;by_cases hb:b=a
 ·subst hb;rw [zl]at e;cases e;exact new
 ·rw [zn hb]at e;exact(x b u e).stay (λc v _ q=>k c v q) (λc q=>by rw [zn (zy q hn)];exact q) λc xs q=>by rw [zn (zy q hn)];exact q
def Rd(H:Hp)(a:Addr)(u:HO):Prop:=H a=some u\/∃o,H a=some (.frz o u)
def Rd.of{u:HO}(h:H a=some u):Rd H a u:= .inl h
theorem Rd.ok{u:HO}(r:Rd H a u)(x:HOk P w H h):jm P w H h a u:=by
 rcases r with r | ⟨o,r⟩
 ·exact x a u r
 ·obtain⟨_,q⟩:=x a _ r;exact q
def Mut:Option HO->Prop
 | some (.lst _)=>True
 | some (.dK _)=>True
 | some (.dT _)=>True
 | some (.set _ _)=>True
 | some (.ins _ _ _)=>True
 | some (.ext _)=>True
 | _=>False
section
variable{x e:Addr}{o':HO}
theorem HOk.write(ok:HOk P w H h)(a:Mut (H x))(d:e=x\/H e=some (.own x))(k:∀b u,b≠e->h.get? b=some u->h'.get? b=some u)(l:∃u,h'.get? e=some u)
  (new:jm P w (upd H x o') h' x o'):HOk P w (upd H x o') h':=λb u q=>by
 have f:∀c y,H c=some (.own y)->c≠x:=λc y r z=>by subst z;rw [r]at a;exact a
 have i:∀c xs,H c=some (.tup xs)->c≠x:=λc xs r z=>by subst z;rw [r]at a;exact a
 by_cases hb:b=x
 ·subst hb;rw [zl]at q;cases q;exact new
 ·rw [zn hb]at q;by_cases hbe:b=e
  ·have q':H b=some (.own x):=by
    rcases d with z | z
    ·exact absurd (hbe.trans z) hb
    ·rw [hbe];exact z
   rw [q]at q';cases q';obtain⟨v,j⟩:=l;exact⟨v,by rw [hbe];exact j⟩
  ·refine(ok b u q).stay (λc v hc r=>k c v ?_ r) (λc r=>by rw [zn (f c b r)];exact r) λc xs r=>by rw [zn (i c xs r)];exact r
   rcases hc with rfl | hc
   ·exact hbe
   ·rintro rfl;rcases d with z | z
    ·exact f c b hc z
    ·rw [hc]at z;cases z;exact hb rfl
end
structure Un(fs ex:List Addr)(H H':Hp)(h h':Heap):Prop where
 keep:∀b o,h.get? b=some o->H b=none->b∉fs->b∉ex->h'.get? b=some o
 slot:∀b o,h.get? b=some o->H b=none->b∈fs->b∉ex->∃sl,h'.get? b=some {o with slots:=sl}
 free:∀b o,h.get? b=some o->H b=none->b∉ex->H' b=none
 there:∀b o,h.get? b=some o->b∉ex->∃o',h'.get? b=some o'
 tups:∀b xs,H b=some (.tup xs)->H' b=some (.tup xs)
 frzs:∀b o u,H b=some (.frz o u)->H' b=some (.frz o u)
 tbls:∀b ps,H b=some (.tbl ps)->∃more,H' b=some (.tbl (ps ++ more))
section
variable{fs h9 ex Da:List Addr}{H1 H2:Hp}{h1 h2:Heap}{x e:Addr}
theorem Un.any(u:Un fs ex H H1 h h1){a:Obj}(q:h.get? b=some a)(n:H b=none)(c:b∉ex):∃sl,h1.get? b=some {a with slots:=sl}:=by
 by_cases hb:b∈fs
 ·exact u.slot b a q n hb c
 ·exact⟨a.slots,u.keep b a q n hb c⟩
theorem Un.kept(k:∀b u,h.get? b=some u->h'.get? b=some u):Un fs ex H H h h':=
 ⟨λb a q _ _ _=>k b a q,λb a q _ _ _=>⟨a.slots,k b a q⟩,λ_ _ _ n _=>n,λb a q _=>⟨a,k b a q⟩,λ_ _ q=>q,λ_ _ _ q=>q,λ_ ps q=>⟨#[],by rw [q];simp⟩⟩
def Un.refl:Un fs ex H H h h:=Un.kept λ_ _ q=>q
theorem Un.laid(k:∀b u,h.get? b=some u->h'.get? b=some u)(hp:h.objs.size<=a)(hn:H a=none):Un fs ex H (upd H a o) h h' where
 keep:=λb u q _ _ _=>k b u q
 slot:=λb u q _ _ _=>⟨u.slots,k b u q⟩
 free:=λb u q n _=>by rw [zn (qe (wZ (wN q) hp))];exact n
 there:=λb u q _=>⟨u,k b u q⟩
 tups:=λb xs q=>by rw [zn (zy q hn)];exact q
 frzs:=λb u xs q=>by rw [zn (zy q hn)];exact q
 tbls:=λb ps q=>⟨#[],by rw [zn (zy q hn),q];simp⟩
theorem Un.write(a:Mut (H x))(f:e=x\/H e=some (.own x))(k:∀b u,b≠e->h.get? b=some u->h'.get? b=some u)(i:∃u,h'.get? e=some u):Un fs ex H (upd H x o) h h':=by
 have d:∀b,H b=none->b≠x:=λb n z=>by subst z;rw [n]at a;exact a
 have c:∀b,H b=none->b≠e:=λb n z=>by
  subst z;rcases f with r | r
  ·exact d b n r
  ·rw [n]at r;cases r
 have hm:∀b u,H b=some u->¬Mut (some u)->b≠x:=λb u q nm z=>by subst z;rw [q]at a;exact nm a
 refine⟨λb u q n _ _=>k b u (c b n) q,λb u q n _ _=>⟨u.slots,k b u (c b n) q⟩,λb u q n _=>by rw [zn (d b n)];exact n,λb u q _=> ?_,
  λb xs q=>by rw [zn (hm b _ q λz=>z)];exact q,λb u xs q=>by rw [zn (hm b _ q λz=>z)];exact q,λb ps q=>⟨#[],by rw [zn (hm b _ q λz=>z),q];simp⟩⟩
 by_cases hbe:b=e
 ·subst hbe;exact i
 ·exact⟨u,k b u hbe q⟩
end
noncomputable def trk(h:Heap)(H:Hp):List Addr:=(List.range h.objs.size).filter λa=>(H a).isSome
noncomputable def z4T(h:Heap)(H:Hp):Heap:=PySem.W.hideAll h (trk h H)
def z9l(h:Heap)(H:Hp):(z4T h H).objs.size=h.objs.size:=PySem.W.hideAll_size _ _
theorem za2{o:Obj}(e:h.get? b=some o)(n:H b=none):(z4T h H).get? b=some o:=
 PySem.W.hideAll_get _ e λhm=>by
  have q:(H b).isSome=true:=(Qz.mp hm).2;rw [n]at q;simp at q
theorem zcz{o:Obj}(e:(z4T h H).get? b=some o):h.get? b=some o/\H b=none:=by
 have a:h.get? b=some o:=PySem.W.of_hideAll (trk h H) e;refine⟨a,?_⟩;cases q:H b with
 | none=>rfl
 | some x=>
  have hm:b∈trk h H:=Qz.mpr ⟨Qp.mpr (wN a),by simp [q]⟩;have z:(z4T h H).get? b=none:=PySem.W.hideAll_none (trk h H) hm;rw [z]at e;cases e
structure Mod(K:W.Frag)(mg:Str->Option Value)(base:Heap):Prop where
 kin:K.In base
 glob:base.Ns mainGlobals mg
 blt:∃mb,base.Ns builtinsNs mb/\∀x:Str,x≠"__name__"->mb x=bootBuiltins x
 nolimit:base.NoLimit
structure Cx where
 prog:Program
 w:World
 K:W.Frag
 mg:Str->Option Value
 base:Heap
 A:Around
 N:List Str
 s₀:Shared
 H₀:Hp
 env:Env
 outer:List Env
 stack:List Env
 ex:List Addr
 fn:Str->Bool
 calm:Bool
 pn:List (Addr×Obj)
 xe:Value->Shared->Prop
noncomputable def frs(l:List Env):List Addr:=l.filterMap (·.frame)
noncomputable abbrev Cx.fs(X:Cx):List Addr:=frs X.outer
def Vis(sc:Scope)(x:Str):Prop:=sc.names.lookup x=some .local\/sc.names.lookup x=some .cell\/sc.names.lookup x=some .free
def Loc(sc:Scope)(x:Str):Prop:=sc.names.lookup x=some .local\/sc.names.lookup x=some .cell
def Look(env:Env)(h:Heap)(m:Str->Option Value)(x:Str)(u:Value):Prop:=
 (env.kindOf x=some .local/\m x=some u)\/((env.kindOf x=some .cell\/env.kindOf x=some .free)/\∃c,env.cells.lookup x=some c/\h.IsCell c (some u))
structure Cx.Ok(X:Cx):Prop where
 mod:Mod X.K X.mg X.base
 kind:X.env.scope.kind= .function
 glob:X.env.globals=mainGlobals
 blt:X.env.builtins=builtinsNs
 above:X.s₀.heap.objs.size<=X.env.locals
 inj:∀x y c,X.env.cells.lookup x=some c->X.env.cells.lookup y=some c->x=y
 has:∀x,(X.env.kindOf x=some .cell\/X.env.kindOf x=some .free)->∃c,X.env.cells.lookup x=some c
 cab:∀x c,X.fn x=true->X.env.cells.lookup x=some c->X.s₀.heap.objs.size<=c
 hd:X.calm=true->X.A.handled=none
 frames:X.A.frames=some X.stack
 stk:X.stack=X.outer\/(X.stack=X.env :: X.outer/\X.env.frame=some X.env.locals)
 exf:∀b∈X.ex,b≠X.env.locals/\∀x c,X.env.cells.lookup x=some c->c≠b
 bs:∀b o,X.base.get? b=some o->X.s₀.heap.get? b=some o/\X.H₀ b=none
 bsz:X.base.objs.size<=X.s₀.heap.objs.size
 noex:∀b o,X.base.get? b=some o->b∉X.ex
 exfs:∀b∈X.ex,b∉X.fs
 funs:X.s₀.heap.FunFrames X.base X.outer
 frf:∀b∈X.fs,X.H₀ b=none
structure Inv(X:Cx)(pins:List (Addr×Obj))(σ:List (Option V))(H:Hp)(s:Shared):Prop where
 ok:X.Ok
 os:s.os=X.s₀.os
 bare:AllBare s.gens
 base:Un X.fs X.ex X.H₀ H X.s₀.heap s.heap
 loc:∃m,s.heap.Ns X.env.locals m/\∀(i:Nat) (x:Str) (v:V),X.N[i]? =some x->σ[i]? =some (some v)->Vis X.env.scope x->∃u,RelV v u/\Look X.env s.heap m x u
 cell:∀x c,X.env.cells.lookup x=some c->∃v,s.heap.IsCell c v
 free:H X.env.locals=none
 freeC:∀x c,X.env.cells.lookup x=some c->H c=none
 pin:∀p∈X.pn ++ pins,s.heap.get? p.1=some p.2/\H p.1=none/\p.1≠X.env.locals/\p.1∉X.fs/\∀v,p.2.data≠ .cell v
 hok:HOk X.prog X.w H s.heap
 len:σ.length=X.N.length
variable{x:Str}{X:Cx}{pins:List (Addr×Obj)}{s s':Shared}{g':Array GenState}{t' i:Nat}{d':Drawn}{ch:List Addr}{it:Addr}{N:List Str}{M:Model}{A:Around}{E:Value->Shared->Prop}
section
variable{σ:List (Option V)}
theorem Cx.Ok.nofr(ok:X.Ok){o:Obj}(e:X.base.get? b=some o):b∉X.fs:=λa=>by
 have:=(ok.funs.mem a).1;rw [e]at this;cases this
def Inv.bs(I:Inv X pins σ H s):∀b o,X.base.get? b=some o->s.heap.get? b=some o/\H b=none:=λb o e=>
 ⟨I.base.keep b o (I.ok.bs b o e).1 (I.ok.bs b o e).2 (I.ok.nofr e) (I.ok.noex b o e),I.base.free b o (I.ok.bs b o e).1 (I.ok.bs b o e).2 (I.ok.noex b o e)⟩
def Inv.bk(I:Inv X pins σ H s):∀b o,X.base.get? b=some o->s.heap.get? b=some o:=λb o e=>(I.bs b o e).1
def Inv.mod(I:Inv X pins σ H s):Mod X.K X.mg X.base:=I.ok.mod
def Inv.kIn(I:Inv X pins σ H s):X.K.In s.heap:=I.ok.mod.kin.keeps I.bk
def Inv.lt(I:Inv X pins σ H s):X.env.locals < s.heap.objs.size:=let ⟨_,hn,_⟩:=I.loc;hn.lt
theorem Inv.sz(I:Inv X pins σ H s):X.s₀.heap.objs.size<=s.heap.objs.size:=wW I.ok.above (w1E I.lt)
theorem Inv.nofs(I:Inv X pins σ H s)(h:s.heap.objs.size<=a):a∉X.fs:=λb=>by
 obtain⟨_,o,c,_⟩:=I.ok.funs.mem b;exact absurd (wZ (wN c) (wW I.sz h)) (QC _)
theorem Inv.cne(I:Inv X pins σ H s):∀x c,X.env.cells.lookup x=some c->c≠X.env.locals:=λx c e z=>by
 obtain⟨v,o,a,hd⟩:=I.cell x c e;obtain⟨m,⟨o',es,ep,b,d,_⟩,_⟩:=I.loc;rw [z,b]at a;cases a;rw [d]at hd;cases hd
theorem Inv.funs(I:Inv X pins σ H s):s.heap.FunFrames X.base X.outer:=by
 have all:∀(l:List Env),(∀b∈frs l,b∈X.fs)->X.s₀.heap.FunFrames X.base l->s.heap.FunFrames X.base l:=by
  intro l
  induction l with
  | nil=>intro _ _;trivial
  | cons env r f=>
   intro hs hl;obtain⟨i,⟨L,o,c,hn,h,hd⟩,hr⟩:=hl;have d:L∈X.fs:=hs L (by unfold frs;rw [List.filterMap_cons,c];exact qF);obtain⟨sl,e⟩:=I.base.slot L o h (I.ok.frf L d) d λz=>I.ok.exfs L z d
   exact⟨i,⟨L,_,c,hn,e,hd⟩,f (λb a=>hs b (by unfold frs;rw [List.filterMap_cons,c];exact wV _ a)) hr⟩
 exact all X.outer (λ_ a=>a) I.ok.funs
theorem Inv.stack(I:Inv X pins σ H s):s.heap.FunFrames X.base X.stack:=by
 rcases I.ok.stk with e | ⟨e,a⟩
 ·rw [e];exact I.funs
 ·rw [e];obtain⟨m,hn,_⟩:=I.loc;refine .cons (by rw [I.ok.kind];decide) a hn ?_ I.funs;exact Heap.get?_none_of_le (wW I.ok.bsz I.ok.above)
theorem Inv.stkSub(I:Inv X pins σ H s):∀b∈frs X.stack,b∈X.env.locals :: X.fs:=λb a=>by
 rcases I.ok.stk with e | ⟨e,c⟩
 ·rw [e]at a;exact wV _ a
 ·rw [e]at a;unfold frs at a;rw [List.filterMap_cons,c]at a;exact a
theorem Inv.stkFree(I:Inv X pins σ H s):∀b∈frs X.stack,H b=none:=λb hb=>by
 rcases wH.mp (I.stkSub b hb)with e | hb
 ·rw [e];exact I.free
 ·obtain⟨_,o,a,_⟩:=I.ok.funs.mem hb;exact I.base.free b o a (I.ok.frf b hb) λz=>I.ok.exfs b z hb
theorem Inv.step(I:Inv X pins σ H s)
  (t:∀b∈ch,(b∈X.ex\/X.s₀.heap.objs.size<=b)/\b≠X.env.locals/\(∀x c,X.env.cells.lookup x=some c->c≠b)/\∀p∈X.pn ++ pins,p.1≠b)
  (keep:∀b o,b≠X.env.locals->b∉X.fs->b∉ch->s.heap.get? b=some o->H b=none->h'.get? b=some o)
  (slot:∀b o,b≠X.env.locals->b∈X.fs->b∉ch->s.heap.get? b=some o->H b=none->∃sl,h'.get? b=some {o with slots:=sl}) (free:∀b o,b∉ch->s.heap.get? b=some o->H b=none->H' b=none)
  (there:∀b o,b∉ch->s.heap.get? b=some o->∃o',h'.get? b=some o')
  (tups:∀b xs,H b=some (.tup xs)->H' b=some (.tup xs)) (frzs:∀b o u,H b=some (.frz o u)->H' b=some (.frz o u)) (tbls:∀b ps,H b=some (.tbl ps)->∃more,H' b=some (.tbl (ps ++ more)))
  (ns:∀m,s.heap.Ns X.env.locals m->h'.Ns X.env.locals m) (hok:HOk X.prog X.w H' h') (D:AllBare g'):
  Inv X pins σ H' {s with heap:=h',gens:=g',drawn:=d',toks:=t'}:=by
 have C:∀b o,X.s₀.heap.get? b=some o->b≠X.env.locals:=λb o e=>qe (wZ (wN e) I.ok.above)
 have B:∀b o,X.s₀.heap.get? b=some o->b∉X.ex->b∉ch:=λb o e a h=>by
  rcases(t b h).1 with z | z
  ·exact a z
  ·exact absurd (wZ (wN e) z) (QC _)
 have cellK:∀x c,X.env.cells.lookup x=some c->∀v,s.heap.IsCell c v->h'.IsCell c v:=λx c e v ⟨o,j,hd⟩=>by
  have y:c∉ch:=λz=>(t c z).2.2.1 x c e rfl
  by_cases hc:c∈X.fs
  ·obtain⟨sl,q⟩:=slot c o (I.cne x c e) hc y j (I.freeC x c e);exact⟨_,q,hd⟩
  ·exact⟨o,keep c o (I.cne x c e) hc y j (I.freeC x c e),hd⟩
 refine⟨I.ok,I.os,D,⟨λb o e n h a=> ?_,λb o e n h a=> ?_,λb o e n a=> ?_,λb o e a=> ?_,λb xs e=>tups b xs (I.base.tups b xs e),λb o xs e=>frzs b o xs (I.base.frzs b o xs e),λb ps e=> ?_⟩,?_,λx c e=> ?_,?_,λx c e=> ?_,λp hp=> ?_,hok,I.len⟩
 ·exact keep b o (C b o e) h (B b o e a) (I.base.keep b o e n h a) (I.base.free b o e n a)
 ·obtain⟨sl,f⟩:=I.base.slot b o e n h a;obtain⟨F,A⟩:=slot b _ (C b o e) h (B b o e a) f (I.base.free b o e n a);exact⟨F,A⟩
 ·obtain⟨o',f⟩:=I.base.there b o e a;exact free b o' (B b o e a) f (I.base.free b o e n a)
 ·obtain⟨o',f⟩:=I.base.there b o e a;exact there b o' (B b o e a) f
 ·obtain⟨J,f⟩:=I.base.tbls b ps e;obtain⟨G,A⟩:=tbls b _ f;exact⟨J ++ G,by rw [A,Array.append_assoc]⟩
 ·obtain⟨m,hn,hl⟩:=I.loc;refine⟨m,ns m hn,λi x v f A E=> ?_⟩;obtain⟨u,r,l⟩:=hl i x v f A E;refine⟨u,r,?_⟩;rcases l with l | ⟨k,c,e,z⟩
  ·exact .inl l
  ·exact .inr ⟨k,c,e,cellK x c e _ z⟩
 ·obtain⟨v,z⟩:=I.cell x c e;exact⟨v,cellK x c e v z⟩
 ·obtain⟨m,⟨o,_,_,j,_⟩,_⟩:=I.loc;exact free _ o (λz=>(t _ z).2.1 rfl) j I.free
 ·obtain⟨v,o,j,hd⟩:=I.cell x c e;exact free c o (λz=>(t c z).2.2.1 x c e rfl) j (I.freeC x c e)
 ·obtain⟨e,n,ne,nf,d⟩:=I.pin p hp;have y:p.1∉ch:=λz=>(t p.1 z).2.2.2 p hp rfl
  exact⟨keep p.1 p.2 ne nf y e n,free p.1 p.2 y e n,ne,nf,d⟩
theorem Inv.un(I:Inv X pins σ H s)(u:Un X.fs [] H H' s.heap h')(hok:HOk X.prog X.w H' h'):Inv X pins σ H' {s with heap:=h',toks:=t'}:=by
 obtain⟨m,⟨o,es,ep,d,r⟩,_⟩:=id I.loc;obtain⟨sl,f⟩:=u.any d I.free (by simp);exact I.step (g':=s.gens) (d':=s.drawn) (ch:= []) (λ_ z=>nomatch z) (λb o _ a _ e n=>u.keep b o e n a (by simp)) (λb o _ a _ e n=>u.slot b o e n a (by simp)) (λb o _ e n=>u.free b o e n (by simp)) (λb o _ e=>u.there b o e (by simp)) u.tups u.frzs u.tbls (λj hm=>by
  obtain⟨o',i,h,c,r'⟩:=hm;rw [d]at c;cases c;exact⟨_,i,h,f,r'⟩) hok I.bare
theorem Inv.call(I:Inv X pins σ H s)(u:Un (frs X.stack) ch H H' s.heap h')(hok:HOk X.prog X.w H' h')(l:AllBare g')
  (f:∀b∈ch,(b∈X.ex\/X.s₀.heap.objs.size<=b)/\b≠X.env.locals/\(∀x c,X.env.cells.lookup x=some c->c≠b)/\∀p∈X.pn ++ pins,p.1≠b):
  Inv X pins σ H' {s with heap:=h',gens:=g',drawn:=d',toks:=t'}:=by
 obtain⟨m,⟨o,es,ep,h,r⟩,_⟩:=id I.loc;obtain⟨sl,a⟩:=u.any h I.free λz=>(f _ z).2.1 rfl
 exact I.step (ch:=ch) f (λb o a i hc e n=>u.keep b o e n (λz=>(wH.mp (I.stkSub b z)).elim a i) hc) (λb o _ _ hc e n=>u.any e n hc) (λb o hc e n=>u.free b o e n hc) (λb o hc e=>u.there b o e hc) u.tups u.frzs u.tbls (λt hm=>by
  obtain⟨o',q,j,d,r'⟩:=hm;rw [h]at d;cases d;exact⟨_,q,j,a,r'⟩) hok l
theorem Inv.turned(I:Inv X pins σ H s)(k:∀b o,b≠it->s.heap.get? b=some o->h'.get? b=some o)(hn:H it=none)(a:it≠X.env.locals)
  (h1:it∈X.ex\/X.s₀.heap.objs.size<=it) (h2:∀x c,X.env.cells.lookup x=some c->c≠it) (i:∀p∈X.pn ++ pins,p.1≠it):Inv X pins σ H {s with heap:=h',toks:=t'}:=by
 have d:∀b u,H b=some u->b≠it:=λb u e z=>by rw [z,hn]at e;cases e
 refine I.step (g':=s.gens) (d':=s.drawn) (ch:= [it]) (λb f=> ?_) (λb o _ _ hc e _=>k b o (λz=>hc (by simp [z])) e) (λb o _ _ hc e _=>⟨o.slots,k b o (λz=>hc (by simp [z])) e⟩) (λ_ _ _ _ n=>n)
  (λb o hc e=>⟨o,k b o (λz=>hc (by simp [z])) e⟩) (λ_ _ e=>e) (λ_ _ _ e=>e) (λb ps e=>⟨#[],by rw [e];simp⟩) (λm hm=> ?_) (λb u e=> ?_) I.bare
 ·have e:b=it:=by simpa using f
  subst e;exact⟨h1,a,h2,i⟩
 ·obtain⟨o,es,ep,h,r⟩:=hm;exact⟨o,es,ep,k _ o (w1p a) h,r⟩
 ·refine(I.hok b u e).stay (λc v hc q=>k c v ?_ q) (λ_ q=>q) λ_ _ q=>q
  rcases hc with z | z
  ·rw [z];exact d b u e
  ·exact d c _ z
def Inv.tok(I:Inv X pins σ H s)(t:Nat):Inv X pins σ H {s with toks:=t}:=I.un (h':=s.heap) (t':=t) Un.refl I.hok
def Inv.kept(I:Inv X pins σ H s)(k:∀b u,s.heap.get? b=some u->h'.get? b=some u):Inv X pins σ H {s with heap:=h',toks:=t'}:=I.un (Un.kept k) (I.hok.kept k)
def Inv.laid(I:Inv X pins σ H s)(k:∀b u,s.heap.get? b=some u->h'.get? b=some u)(hp:s.heap.objs.size<=a)(new:jm X.prog X.w (upd H a o) h' a o):
  Inv X pins σ (upd H a o) {s with heap:=h',toks:=t'}:=I.un (Un.laid k hp (I.hok.fresh hp)) (I.hok.laid k hp new)
def Inv.write{x e:Addr}(I:Inv X pins σ H s)(d:Mut (H x))(a:e=x\/H e=some (.own x))(k:∀b u,b≠e->s.heap.get? b=some u->h'.get? b=some u)(c:∃u,h'.get? e=some u)
  (new:jm X.prog X.w (upd H x o) h' x o):Inv X pins σ (upd H x o) {s with heap:=h',toks:=t'}:=I.un (Un.write d a k c) (I.hok.write d a k c new)
def Inv.pins_of{a:List (Addr×Obj)}(I:Inv X pins σ H s)(h:∀p∈a,s.heap.get? p.1=some p.2/\H p.1=none/\p.1≠X.env.locals/\p.1∉X.fs/\∀v,p.2.data≠ .cell v):Inv X a σ H s:=
 ⟨I.ok,I.os,I.bare,I.base,I.loc,I.cell,I.free,I.freeC,λp hp=>(wA.mp hp).elim (λz=>I.pin p (qc _ z)) (h p),I.hok,I.len⟩
theorem z78(e:N.Nodup){j:Nat}(a:N[i]? =some x)(b:N[j]? =some x):i=j:=by
 obtain⟨h1,c⟩:=wk.mp a;obtain⟨h2,d⟩:=wk.mp b;exact(List.getElem_inj e).mp (c.trans d.symm)
variable{Q:Unit->Shared->Prop}
theorem z5A{v:V}(I:Inv X pins σ H s)(G:X.N.Nodup)(hi:X.N[i]? =some x)(l:Loc X.env.scope x)(r:RelV v u)
  (h:∀s',Inv X pins (σ.set i (some v)) H s'->(∃a,Heap.SameBut a s.heap s'.heap/\(a=X.env.locals\/X.env.cells.lookup x=some a))->Q () s') (P:X.fn x=true\/X.env.scope.names.lookup x=some .local:=by first | exact .inl rfl | exact .inr rfl | assumption):wpAny M A (storeName X.env x u) Q E s:=by
 obtain⟨m,hn,hl⟩:=id I.loc;have U:(X.env.scope.kind == .class || (X.env.scope.kind == .module && X.env.locals != X.env.globals))=false:=by rw [I.ok.kind];rfl
 have hiσ:i < σ.length:=by rw [I.len];exact(wk.mp hi).1
 have cne:=I.cne;have tracked:∀{a:Addr} {h':Heap},(∃o,s.heap.get? a=some o/\H a=none)->Heap.SameBut a s.heap h'->HOk X.prog X.w H h':=λ{a h'} ha hs b S e=>by
  obtain⟨_,_,K⟩:=ha;refine(I.hok b S e).stay (λc w' hc q=>(hs.2 c ?_).trans q) (λ_ q=>q) λ_ _ q=>q
  rintro rfl;rcases hc with rfl | hc
  ·rw [K]at e;cases e
  ·rw [K]at hc;cases hc
 rcases l with hk | hk
 ·refine wpAny_storeName_local hk hn (λh' T hs=> ?_) U;obtain⟨oL,_,_,R,_⟩:=id hn;refine h _ ⟨I.ok,I.os,I.bare,⟨λb o e n B l=> ?_,λb o e n B l=> ?_,I.base.free,λb o e l=> ?_,I.base.tups,I.base.frzs,I.base.tbls⟩,⟨_,T,λj y v' f t F=> ?_⟩,λy c e=> ?_,I.free,I.freeC,λp hp=> ?_,tracked ⟨oL,R,I.free⟩ hs,by simpa using I.len⟩ ⟨_,hs,.inl rfl⟩
  ·exact(hs.2 b (qe (wZ (wN e) I.ok.above))).trans (I.base.keep b o e n B l)
  ·obtain⟨sl,f⟩:=I.base.slot b o e n B l;exact⟨sl,(hs.2 b (qe (wZ (wN e) I.ok.above))).trans f⟩
  ·obtain⟨o',f⟩:=I.base.there b o e l;exact⟨o',(hs.2 b (qe (wZ (wN e) I.ok.above))).trans f⟩
  ·by_cases hj:j=i
   ·subst hj;rw [hi]at f;cases f;rw [w0R hiσ]at t;cases t;exact⟨u,r,.inl ⟨hk,by simp⟩⟩
   ·rw [List.getElem?_set_ne (w1p hj)]at t;obtain⟨C,r',q⟩:=hl j y v' f t F;refine⟨C,r',?_⟩;rcases q with⟨k,e⟩ | ⟨k,c,e,z⟩
    ·refine .inl ⟨k,?_⟩;have:y≠x:=λe=>hj (z78 G f (e ▸ hi))
     simp [this,e]
    ·exact .inr ⟨k,c,e,z.sameBut hs (cne y c e)⟩
  ·obtain⟨w',z⟩:=I.cell y c e;exact⟨w',z.sameBut hs (cne y c e)⟩
  ·obtain⟨e,n,ne,nf,d⟩:=I.pin p hp;exact⟨(hs.2 p.1 ne).trans e,n,ne,nf,d⟩
 ·have D:X.fn x=true:=by
   rcases P with z | z
   ·exact z
   ·rw [z]at hk;cases hk
  obtain⟨c,hc⟩:=I.ok.has x (.inl hk);obtain⟨w',z⟩:=I.cell x c hc;refine wpAny_storeName_cell I.ok.kind hk hc z (λh' L hs=> ?_);obtain⟨oc,J,O⟩:=id z;refine h {s with heap:=h'} ⟨I.ok,I.os,I.bare,⟨λb o e n B l=> ?_,λb o e n B l=> ?_,I.base.free,λb o e l=> ?_,I.base.tups,I.base.frzs,I.base.tbls⟩,⟨m,hn.sameBut hs (w1p (cne x c hc)),λj y v' f t F=> ?_⟩,λy c' e=> ?_,I.free,I.freeC,λp hp=> ?_,tracked ⟨oc,J,I.freeC x c hc⟩ hs,by simpa using I.len⟩ ⟨c,hs,.inr hc⟩
  ·exact(hs.2 b (qe (wZ (wN e) (I.ok.cab x c D hc)))).trans (I.base.keep b o e n B l)
  ·obtain⟨sl,f⟩:=I.base.slot b o e n B l;exact⟨sl,(hs.2 b (qe (wZ (wN e) (I.ok.cab x c D hc)))).trans f⟩
  ·obtain⟨o',f⟩:=I.base.there b o e l;exact⟨o',(hs.2 b (qe (wZ (wN e) (I.ok.cab x c D hc)))).trans f⟩
  ·by_cases hj:j=i
   ·subst hj;rw [hi]at f;cases f;rw [w0R hiσ]at t;cases t;exact⟨u,r,.inr ⟨.inl hk,c,hc,L⟩⟩
   ·rw [List.getElem?_set_ne (w1p hj)]at t;obtain⟨C,r',q⟩:=hl j y v' f t F;refine⟨C,r',?_⟩;rcases q with q | ⟨k,c',e,Y⟩
    ·exact .inl q
    ·refine .inr ⟨k,c',e,Y.sameBut hs ?_⟩;rintro rfl;exact hj (z78 G f (I.ok.inj _ _ _ e hc ▸ hi))
  ·by_cases gF:c'=c
   ·subst gF;exact⟨_,L⟩
   ·obtain⟨w2,Z⟩:=I.cell y c' e;exact⟨w2,Z.sameBut hs gF⟩
  ·obtain⟨e,n,ne,nf,d⟩:=I.pin p hp;refine⟨(hs.2 p.1 ?_).trans e,n,ne,nf,d⟩;intro q;rw [q,J]at e;have q':oc=p.2:=Option.some.inj e;exact d w' (by rw [<-q'];exact O)
theorem z6D{v:V}(I:Inv X pins σ H s)(d:X.N.Nodup)(hi:X.N[i]? =some x)(c:Loc X.env.scope x)(r:RelV v u)
  (h:∀s',Inv X pins (σ.set i (some v)) H s'->Q () s') (b:X.fn x=true\/X.env.scope.names.lookup x=some .local:=by first | exact .inl rfl | exact .inr rfl | assumption):wpAny M A (storeName X.env x u) Q E s:=
 z5A I d hi c r (λs' a _=>h s' a) b
theorem Inv.call'(I:Inv X pins σ H s)(a:s'.os=s.os)(u:Un (frs X.stack) ch H H' s.heap s'.heap)(hok:HOk X.prog X.w H' s'.heap)(d:AllBare s'.gens)
  (f:∀b∈ch,(b∈X.ex\/X.s₀.heap.objs.size<=b)/\b≠X.env.locals/\(∀x c,X.env.cells.lookup x=some c->c≠b)/\∀p∈X.pn ++ pins,p.1≠b):Inv X pins σ H' s':=by
 obtain⟨h',g',d',t',o'⟩:=s';have e:o'=s.os:=a;subst e;exact I.call (g':=g') (t':=t') (d':=d') u hok d f
end
abbrev XK:=Value->Option Addr->Hp->Prop
abbrev St:=List (Option V)
abbrev VK:=V->Hp->Prop
abbrev TE:=St->Hp->VK->Prop
abbrev TT:=St->Hp->(Bool->Hp->Prop)->Prop
abbrev TA:=St->Hp->(List V->Hp->Prop)->Prop
structure Ends where
 nx:St->Hp->Prop
 rt:VK
 bk:St->Hp->Prop:=λ_ _=>False
 ct:St->Hp->Prop:=λ_ _=>False
abbrev TS:=Ends->St->Hp->Prop
def EP(X:Cx)(pins:List (Addr×Obj))(σ:St)(Q:VK)(u:Value)(s':Shared):Prop:=∃v H',Inv X pins σ H' s'/\RelV v u/\Q v H'
def TP(X:Cx)(pins:List (Addr×Obj))(σ:St)(Q:Bool->Hp->Prop)(b:Bool)(s':Shared):Prop:=∃H',Inv X pins σ H' s'/\Q b H'
def AP(X:Cx)(pins:List (Addr×Obj))(σ:St)(Q:List V->Hp->Prop)(us:List Value)(s':Shared):Prop:=∃vs H',Inv X pins σ H' s'/\zQ vs us/\Q vs H'
def SP(X:Cx)(pins:List (Addr×Obj))(D:Ends)(f:Flow)(s':Shared):Prop:=
 match f with
 | .next=>∃σ' H',Inv X pins σ' H' s'/\D.nx σ' H'
 | .brk=>∃σ' H',Inv X pins σ' H' s'/\D.bk σ' H'
 | .cont=>∃σ' H',Inv X pins σ' H' s'/\D.ct σ' H'
 | .ret u=>∃v σ' H',Inv X pins σ' H' s'/\RelV v u/\D.rt v H'
def PE(X:Cx)(e:Expr)(t:TE):Prop:=
 ∀(pins:List (Addr×Obj)) (s:Shared) (σ:St) (H:Hp) (Q:VK),Inv X pins σ H s->t σ H Q->wpAny (model X.prog X.w) X.A (eval e X.env) (EP X pins σ Q) X.xe s
def PT(X:Cx)(e:Expr)(t:TT):Prop:=
 ∀(pins:List (Addr×Obj)) (s:Shared) (σ:St) (H:Hp) (Q:Bool->Hp->Prop),Inv X pins σ H s->t σ H Q->wpAny (model X.prog X.w) X.A (isTrue e X.env (eval e X.env)) (TP X pins σ Q) X.xe s
def PW(X:Cx)(e:Expr)(t:TT):Prop:=
 ∀(whole:Sem Value) (pins:List (Addr×Obj)) (s:Shared) (σ:St) (H:Hp) (Q:Bool->Hp->Prop),Inv X pins σ H s->t σ H Q->wpAny (model X.prog X.w) X.A (isTrue e X.env whole) (TP X pins σ Q) X.xe s
variable{e:Expr}
def PW.pt{t:TT}(h:PW X e t):PT X e t:=h _
def PA(X:Cx)(es:List Expr)(t:TA):Prop:=
 ∀(pos:Pos) (pins:List (Addr×Obj)) (s:Shared) (σ:St) (H:Hp) (Q:List V->Hp->Prop),Inv X pins σ H s->t σ H Q->wpAny (model X.prog X.w) X.A (spliced (backTo pos (starEach es X.env))) (AP X pins σ Q) X.xe s
def PS(X:Cx)(st:Stmt)(t:TS):Prop:=
 ∀(pins:List (Addr×Obj)) (s:Shared) (σ:St) (H:Hp) (D:Ends),Inv X pins σ H s->t D σ H->wpAny (model X.prog X.w) X.A (exec st X.env) (SP X pins D) X.xe s
def PSs(X:Cx)(st:List Stmt)(t:TS):Prop:=
 ∀(pins:List (Addr×Obj)) (s:Shared) (σ:St) (H:Hp) (D:Ends),Inv X pins σ H s->t D σ H->wpAny (model X.prog X.w) X.A (execs st X.env) (SP X pins D) X.xe s
def thn{α:Type}{t:Sem α}{Q b:α->Shared->Prop}(h:wpAny M A t Q E s)(c:∀a s,Q a s->b a s):wpAny M A t b E s:=QR h c λ_ _ x=>x
variable{Q:Value->Shared->Prop}{ta:TE}
section
def z76(i:Nat):TE:=λσ H Q=>∃v,σ[i]? =some (some v)/\Q v H
def tC(v:V):TE:=λ_ H Q=>Q v H
theorem z2r{pos:Pos}(d:X.N[i]? =some x)(a:Vis X.env.scope x)(hd:(x == ("__debug__":Str))=false:=by decide)(b:(x == ("__classdict__":Str))=false:=by decide):PE X (.Name x pos) (z76 i):=by
 intro pins s σ H Q I h;obtain⟨v,e,h⟩:=h;obtain⟨m,hn,hl⟩:=I.loc;obtain⟨u,r,l⟩:=hl i x v d e a;have fin:EP X pins σ Q u s:=⟨v,H,I,r,h⟩;rcases l with⟨hk,hm⟩ | ⟨hk,c,hc,aG⟩
 ·exact wpAny_Name (wpAny_loadName_local I.ok.kind hk hn hm fin) hd
 ·rcases hk with hk | hk
  ·exact wpAny_Name (wpAny_loadName_cell I.ok.kind hk hc aG fin) hd
  ·exact wpAny_Name (wpAny_loadName_free I.ok.kind hk hc aG fin b) hd
def zd{i j pos}:PE X (.Constant (.int i) j pos) (tC (.int i)):=λ_ _ _ H _ I h=>wpAny_Constant_int ⟨.int i,H,I.tok _,⟨_,rfl⟩,h⟩
def jD{b j pos}:PE X (.Constant (.bool b) j pos) (tC (.bl b)):=λ_ _ _ H _ I h=>Constant_bool ⟨.bl b,H,I,rfl,h⟩
def z2v{j pos}:PE X (.Constant .none j pos) (tC .non):=λ_ _ _ H _ I h=>Constant_none ⟨.non,H,I,rfl,h⟩
def zi{x j pos}:PE X (.Constant (.str x) j pos) (tC (.str x)):=λ_ _ _ H _ I h=>Calls.Constant_str ⟨.str x,H,I.tok _,⟨_,rfl⟩,h⟩
def Gl(X:Cx)(x:Str):Prop:=X.env.kindOf x=some .globalImplicit
theorem z37{σ:St}{pos:Pos}(I:Inv X pins σ H s)(a:Gl X x)(hm:X.mg x=some u)(h:Q u s)
  (hd:(x == ("__debug__":Str))=false:=by decide):wpAny (model X.prog X.w) X.A (eval (.Name x pos) X.env) Q E s:=
 Calls.Name_function_global I.ok.kind a (Calls.loadGlobal_global (by rw [I.ok.glob];exact I.mod.glob.keeps I.bk) hm h) hd
theorem z1l{σ:St}{pos:Pos}(I:Inv X pins σ H s)(a:Gl X x)(hm:X.mg x=none)(b:bootBuiltins x=some u)(h:Q u s)
  (hn:x≠"__name__":=by decide) (hd:(x == ("__debug__":Str))=false:=by decide):wpAny (model X.prog X.w) X.A (eval (.Name x pos) X.env) Q E s:=by
 obtain⟨mb,h1,h2⟩:=I.mod.blt;exact Calls.Name_function_global I.ok.kind a (Calls.loadGlobal_builtin (by rw [I.ok.glob];exact I.mod.glob.keeps I.bk) hm (by rw [I.ok.blt];exact h1.keeps I.bk) ((h2 x hn).trans b) h) hd
theorem zbW{v:V}{pos:Pos}(a:Gl X x)(hm:X.mg x=some u)(r:RelV v u)(hd:(x == ("__debug__":Str))=false:=by decide):PE X (.Name x pos) (tC v):=
 λ_ _ _ H _ I h=>z37 I a hm ⟨v,H,I,r,h⟩ hd
theorem jQ{v:V}{pos:Pos}(a:Gl X x)(hm:X.mg x=none)(b:bootBuiltins x=some u)(r:RelV v u)(hn:x≠"__name__":=by decide)(hd:(x == ("__debug__":Str))=false:=by decide):PE X (.Name x pos) (tC v):=
 λ_ _ _ H _ I h=>z1l I a hm b ⟨v,H,I,r,h⟩ hn hd
variable{a b:Expr}{tb:TE}{pos:Pos}
def tB(t:TE):TT:=λσ H Q=>t σ H λx H1=>∃c,x= .bl c/\Q c H1
theorem zY{t:TE}(h:PE X e t)(c:∀whole,isTrue e X.env whole=(do let v<-whole;standAt e.pos;holding [v] (truthy v)):=by intro _;rfl):PT X e (tB t):=by
 intro pins s σ H Q I a;refine isTrue_plain (thn (h pins s σ H _ I a) ?_) (c _);rintro v s1 ⟨x,H1,b,r1,q1⟩;obtain⟨d,rfl,q⟩:=q1;cases r1;exact w0D ⟨H1,b,q⟩
variable{tA eG:TT}{rest:List Expr}
def zfy(t u:TT):TT:=λσ H Q=>t σ H λc H1=>if c=true then u σ H1 Q else Q false H1
def tOr(t u:TT):TT:=λσ H Q=>t σ H λc H1=>if c=true then Q true H1 else u σ H1 Q
def zfw(t:TT):TT:=λσ H Q=>t σ H λc H1=>Q (!c) H1
theorem kW(ha:PT X a tA):PW X (.BoolOp .And [a] pos) tA:=by
 intro b pins s σ H Q I h;refine isTrue_and (thn (ha pins s σ H Q I h) λc s1 e=> ?_);cases c with
 | true=>exact isTrue_and_nil e
 | false=>exact e
theorem z1V(ha:PT X a tA):PW X (.BoolOp .Or [a] pos) tA:=by
 intro b pins s σ H Q I h;refine isTrue_or (thn (ha pins s σ H Q I h) λc s1 e=> ?_);cases c with
 | false=>exact isTrue_or_nil e
 | true=>exact e
theorem z0d(ha:PT X a tA)(e:PW X (.BoolOp .And (b :: rest) pos) eG):PW X (.BoolOp .And (a :: b :: rest) pos) (zfy tA eG):=by
 intro f pins s σ H Q I h;refine isTrue_and (thn (ha pins s σ H _ I h) ?_);rintro c s1 ⟨H1,d,q1⟩;cases c with
 | true=>exact e f pins s1 σ H1 Q d q1
 | false=>exact⟨H1,d,q1⟩
theorem z2F(ha:PT X a tA)(e:PW X (.BoolOp .Or (b :: rest) pos) eG):PW X (.BoolOp .Or (a :: b :: rest) pos) (tOr tA eG):=by
 intro f pins s σ H Q I h;refine isTrue_or (thn (ha pins s σ H _ I h) ?_);rintro c s1 ⟨H1,d,q1⟩;cases c with
 | true=>exact⟨H1,d,q1⟩
 | false=>exact e f pins s1 σ H1 Q d q1
theorem jT(ha:PT X a tA):PT X (.UnaryOp .Not a pos) (zfw tA):=by
 intro pins s σ H Q I h;exact isTrue_not (ha pins s σ H (λc H1=>Q (!c) H1) I h)
def zeP(ta:TE):TE:=λσ H Q=>ta σ H λx H1=>∃c,x= .bl c/\Q (.bl (!c)) H1
theorem zbE(ha:PE X a ta):PE X (.UnaryOp .Not a pos) (zeP ta):=by
 intro pins s σ H Q I h;refine UnaryOp_ (thn (ha pins s σ H _ I h) ?_);rintro v s1 ⟨x,H1,b,r1,q1⟩;obtain⟨c,rfl,q1⟩:=q1;cases r1;exact not_of (w0D ⟨.bl (!c),H1,b,rfl,q1⟩)
end
def SqL(K:W.Frag)(H:Hp)(a:Addr)(xs:List V):Prop:=
 Rd H a (.lst xs)\/
  ∃(o:Obj) (its:Array Value) (n:Nat),K.lookup a=some o/\o.cls= .type "list"/\o.dict=none/\o.data= .seq its n/\its.size<=sizeLine/\zQ xs its.toList
def SqT(K:W.Frag)(H:Hp)(a:Addr)(xs:List V):Prop:=
 Rd H a (.tup xs)\/
  ∃(o:Obj) (its:Array Value) (n:Nat),K.lookup a=some o/\o.cls= .type "tuple"/\o.data= .seq its n/\its.size<=sizeLine/\zQ xs its.toList
noncomputable def zfA:Value->Option V
 | .none=>some .non
 | .bool b=>some (.bl b)
 | .int i _=>some (.int i)
 | .str x _=>some (.str x)
 | .bytes b _=>some (.byt b)
 | .float b _=>some (.flt b)
 | .ref a=>some (.ref a)
 | .type n=>some (.ty n)
 | _=>none
theorem RelV.abs{x:V}(r:RelV x u):zfA u=some x:=by
 cases x with
 | non=>cases r;rfl
 | bl _=>cases r;rfl
 | int _=>obtain⟨t,rfl⟩:=r;rfl
 | str _=>obtain⟨t,rfl⟩:=r;rfl
 | byt _=>obtain⟨t,rfl⟩:=r;rfl
 | flt _=>obtain⟨t,rfl⟩:=r;rfl
 | ref _=>cases r;rfl
 | ty _=>cases r;rfl
variable{y:V}
theorem RelV.inj{x:V}(r:RelV x u)(q:RelV y u):x=y:=Option.some.inj (r.abs.symm.trans q.abs)
theorem zQ.inj:∀{xs ys:List V} {us:List Value},zQ xs us->zQ ys us->xs=ys
 | _,_,_,.nil,.nil=>rfl
 | _,_,_,.cons r t,.cons r' t'=>by rw [r.inj r',zQ.inj t t']
section
variable{σ:St}{ys:List V}
def SqL.of{K:W.Frag}(h:H a=some (.lst xs)):SqL K H a xs:= .inl (.inl h)
def SqT.of{K:W.Frag}(h:H a=some (.tup xs)):SqT K H a xs:= .inl (.inl h)
theorem Inv.list(I:Inv X pins σ H s)(h:SqL X.K H a xs):∃its:List Value,zQ xs its/\PlainL s.heap a its.toArray/\xs.length<=sizeLine:=by
 rcases h with h | ⟨o,its,n,b,hc,hd,hs,hz,r⟩
 ·obtain⟨z,its,n,r,e⟩:=h.ok I.hok;exact⟨its,r,⟨_,n,e,rfl,rfl,rfl⟩,z⟩
 ·refine⟨its.toList,r,⟨o,n,I.kIn a o b,hc,hd,by simpa using hs⟩,?_⟩;have e:=r.length;simp only [w0K]at e
  lia
theorem Inv.tuple(I:Inv X pins σ H s)(h:SqT X.K H a xs):∃its:List Value,zQ xs its/\IsTup s.heap a its.toArray/\xs.length<=sizeLine:=by
 rcases h with h | ⟨o,its,n,b,hc,hs,hz,r⟩
 ·obtain⟨z,its,r,p⟩:=h.ok I.hok;exact⟨its,r,p,z⟩
 ·refine⟨its.toList,r,⟨o,I.kIn a o b,hc,n,by simpa using hs⟩,?_⟩;have e:=r.length;simp only [w0K]at e
  lia
theorem Inv.list_inj(I:Inv X pins σ H s)(h:SqL X.K H a xs)(h':SqL X.K H a ys):xs=ys:=by
 obtain⟨its,r,⟨o,n,e,_,_,d⟩,_⟩:=I.list h;obtain⟨its',r',⟨o',c,b,_,_,d'⟩,_⟩:=I.list h';rw [e]at b;cases b;rw [d]at d'
 injection d' with d1 _
 have:its=its':=by simpa using Qj Array.toList d1
 subst this;exact r.inj r'
theorem Inv.tuple_inj(I:Inv X pins σ H s)(h:SqT X.K H a xs)(h':SqT X.K H a ys):xs=ys:=by
 obtain⟨its,r,⟨o,e,_,n,d⟩,_⟩:=I.tuple h;obtain⟨its',r',⟨o',b,_,c,d'⟩,_⟩:=I.tuple h';rw [e]at b;cases b;rw [d]at d'
 injection d' with d1 _
 have:its=its':=by simpa using Qj Array.toList d1
 subst this;exact r.inj r'
end
noncomputable abbrev Cx.wish(X:Cx)(E:Value->Shared->Prop):Cx:={X with xe:=E}
noncomputable abbrev Cx.nox(X:Cx):Cx:=X.wish λ_ _=>False
theorem Cx.Ok.wish(ok:X.Ok)(E:Value->Shared->Prop):(X.wish E).Ok:=
 ⟨ok.mod,ok.kind,ok.glob,ok.blt,ok.above,ok.inj,ok.has,ok.cab,ok.hd,ok.frames,ok.stk,ok.exf,ok.bs,ok.bsz,ok.noex,ok.exfs,ok.funs,ok.frf⟩
def Cx.Ok.unwish(ok:(X.wish E).Ok):X.Ok:=
 ⟨ok.mod,ok.kind,ok.glob,ok.blt,ok.above,ok.inj,ok.has,ok.cab,ok.hd,ok.frames,ok.stk,ok.exf,ok.bs,ok.bsz,ok.noex,ok.exfs,ok.funs,ok.frf⟩
variable{D:Ends}
section
variable{σ:St}
theorem Inv.wish(I:Inv X pins σ H s)(E:Value->Shared->Prop):Inv (X.wish E) pins σ H s:=⟨I.ok.wish E,I.os,I.bare,I.base,I.loc,I.cell,I.free,I.freeC,I.pin,I.hok,I.len⟩
def Inv.unwish(I:Inv (X.wish E) pins σ H s):Inv X pins σ H s:=⟨I.ok.unwish,I.os,I.bare,I.base,I.loc,I.cell,I.free,I.freeC,I.pin,I.hok,I.len⟩
theorem SP.unwish{f:Flow}(h:SP (X.wish E) pins D f s'):SP X pins D f s':=by
 cases f with
 | next=>obtain⟨σ',H',I,q⟩:=h;exact⟨σ',H',I.unwish,q⟩
 | brk=>obtain⟨σ',H',I,q⟩:=h;exact⟨σ',H',I.unwish,q⟩
 | cont=>obtain⟨σ',H',I,q⟩:=h;exact⟨σ',H',I.unwish,q⟩
 | ret u=>obtain⟨v,σ',H',I,r,q⟩:=h;exact⟨v,σ',H',I.unwish,r,q⟩
theorem PSs.nox{st:List Stmt}{t:TS}(h:PSs X.nox st t):PSs X st t:=λpins s σ H D I a=>
 QR (h pins s σ H D (I.wish _) a) (λ_ _ q=>q.unwish) λ_ _ z=>False.elim z
end
variable{te:TE}{c:Expr}{tc:TT}
section
variable{st:Stmt}{rest:List Stmt}{t u:TS}{pos:Pos}
def z4a:TS:=λD σ H=>D.nx σ H
def z2R(t u:TS):TS:=λD σ H=>t {D with nx:=u D} σ H
def zu:PSs X [] z4a:=λ_ _ σ H _ I h=>wpAny_execs_nil ⟨σ,H,I,h⟩
theorem zc(h1:PS X st t)(h2:PSs X rest u):PSs X (st :: rest) (z2R t u):=by
 intro pins s σ H D I h;refine wpAny_execs_cons (thn (h1 pins s σ H {D with nx:=u D} I h) λf s1 q=> ?_);cases f with
 | next=>
  obtain⟨σ',H',a,q⟩:=q;exact h2 pins s1 σ' H' D a q
 | ret v=>exact q
 | brk=>exact q
 | cont=>exact q
theorem zg(h1:PS X st t):PSs X [st] t:=by
 intro pins s σ H D I h;refine wpAny_execs_cons (thn (h1 pins s σ H D I h) λf s1 q=> ?_);cases f with
 | next=>exact wpAny_execs_nil q
 | ret v=>exact q
 | brk=>exact q
 | cont=>exact q
theorem Inv.quiet{σ:St}(I:Inv X pins σ H s):interactive X.env=false:=by simp [interactive,I.ok.kind]
def zf2(te:TE):TS:=λD σ H=>te σ H λ_ H1=>D.nx σ H1
theorem jh(a:PE X e te)(hs:swapsWith e none pos.line X.env=pure false:=by rfl):PS X (.Expr e pos) (zf2 te):=by
 intro pins s σ H D I h;exact wpAny_Expr_any (thn (a pins s σ H _ I h) λv s1 ⟨x,H1,b,r1,q1⟩=>⟨σ,H1,b,q1⟩) I.quiet hs
def zfd(te:TE):TS:=λD σ H=>te σ H D.rt
theorem zt(a:PE X e te):PS X (.Return (some e) pos) (zfd te):=by
 intro pins s σ H D I h;exact wpAny_Return_some (thn (a pins s σ H _ I h) λv s1 ⟨x,H1,b,r1,q1⟩=>⟨x,σ,H1,b,r1,q1⟩)
def z7l(c:TT)(t u:TS):TS:=λD σ H=>c σ H λb H1=>if b=true then t D σ H1 else u D σ H1
theorem zC{a b:List Stmt}(hc:PT X c tc)(ha:PSs X a t)(f:PSs X b u):PS X (.If c a b pos) (z7l tc t u):=by
 intro pins s σ H D I h;refine wpAny_If (thn (hc pins s σ H _ I h) ?_);rintro d s1 ⟨H1,e,q1⟩;cases d with
 | true=>exact ha pins s1 σ H1 D e q1
 | false=>exact f pins s1 σ H1 D e q1
def zdz:TS:=λ_ _ _=>False
def z2E:PS X st zdz:=λ_ _ _ _ _ _ h=>h.elim
end
abbrev TG:=V->St->Hp->(St->Hp->Prop)->Prop
abbrev TGs:=List V->St->Hp->(St->Hp->Prop)->Prop
def PG(X:Cx)(target:Expr)(t:TG):Prop:=
 ∀(pins:List (Addr×Obj)) (s:Shared) (σ:St) (H:Hp) (v:V) (u:Value) (Q:St->Hp->Prop),Inv X pins σ H s->RelV v u->t v σ H Q->
  wpAny (model X.prog X.w) X.A (assign target X.env u) (λ_ s'=>∃σ' H',Inv X pins σ' H' s'/\Q σ' H') X.xe s
def PGs(X:Cx)(a:List Expr)(t:TGs):Prop:=
 ∀(pins:List (Addr×Obj)) (s:Shared) (σ:St) (H:Hp) (vs:List V) (us:List Value) (Q:St->Hp->Prop),Inv X pins σ H s->zQ vs us->t vs σ H Q->
  wpAny (model X.prog X.w) X.A (assignInOrder ((assignEach a X.env).map (·.2)) us) (λ_ s'=>∃σ' H',Inv X pins σ' H' s'/\Q σ' H') X.xe s
abbrev zdg:=V->V->V->Hp->(Hp->Prop)->Prop
def zez(X:Cx)(t:zdg):Prop:=
 ∀(pins:List (Addr×Obj)) (s:Shared) (σ:St) (H:Hp) (o i v:V) (a b u:Value) (Q:Hp->Prop),Inv X pins σ H s->RelV o a->RelV i b->RelV v u->t o i v H Q->
  wpAny (model X.prog X.w) X.A (setItem a b u) (λ_ s'=>∃H',Inv X pins σ H' s'/\Q H') X.xe s
variable{es:List Expr}{n:Nat}{tg:Expr}
section
variable{pos:Pos}
def z1Z(i:Nat):TG:=λv σ H Q=>Q (σ.set i (some v)) H
theorem z0I(d:X.N.Nodup)(hi:X.N[i]? =some x)(c:Loc X.env.scope x)(b:X.fn x=true\/X.env.scope.names.lookup x=some .local:=by first | exact .inl rfl | exact .inr rfl | assumption):PG X (.Name x pos) (z1Z i):=by
 intro pins s σ H v u Q I r h;exact wpAny_assign_Name (z6D I d hi c r (λs' a=>⟨_,H,a,h⟩) b)
def zdt:TGs:=λvs σ H Q=>vs= []/\Q σ H
def z6x(t:TG)(u:TGs):TGs:=λvs σ H Q=>∃v r,vs=v :: r/\t v σ H λσ' H'=>u r σ' H' Q
theorem z8e:PGs X [] zdt:=by
 intro pins s σ H vs us Q I r h;obtain⟨e,h⟩:=h;subst e;cases r;exact assignInOrder_nil ⟨σ,H,I,h⟩
theorem z2V{t:TG}{u:TGs}(h1:PG X e t)(h2:PGs X es u)
  (hs:(assignEach (e :: es) X.env).map (·.2)=assign e X.env :: (assignEach es X.env).map (·.2):=by rfl):PGs X (e :: es) (z6x t u):=by
 intro pins s σ H vs us Q I r h;obtain⟨v,d,c,h⟩:=h;subst c;cases r with
 | cons r b=>
  rw [hs];refine assignInOrder_cons (thn (h1 pins s σ H _ _ _ I r h) ?_);rintro _ s1 ⟨σ1,H1,a,q1⟩;exact h2 pins s1 σ1 H1 _ _ Q a b q1
def zdP(K:W.Frag)(n:Nat)(t:TGs):TG:=λv σ H Q=>∃a xs,v= .ref a/\SqT K H a xs/\xs.length=n/\t xs σ H Q
theorem zas{k:Nat}{t:TGs}(hc:X.calm=true)(h:PGs X es t)
  (hn:(assignEach es X.env).length=n:=by rfl) (i:(assignEach es X.env).findIdx? (·.1)=none:=by rfl):PG X (.Tuple es k pos) (zdP X.K n t):=by
 intro pins s σ H v u Q I r c;obtain⟨a,xs,j,hq,hl,c⟩:=c;subst j;cases r;obtain⟨its,d,ht,hz⟩:=I.tuple hq;refine assign_Tuple_tuple (I.ok.hd hc) ht (by simp [hn,<-hl,d.length]) i λh' l=> ?_
 have f:Inv X pins σ H {s with heap:=h'}:=I.kept (t':=s.toks) λb o e=>l b o (qe (wN e)) e
 exact h pins _ σ H xs _ Q f (by simpa using d) c
def zft(to a:TE)(t:zdg):TG:=λv σ H Q=>to σ H λo H1=>a σ H1 λi H2=>t o i v H2 λb=>Q σ b
theorem z7T{o i:Expr}{to c:TE}{t:zdg}(l:PE X o to)(hi:PE X i c)(hs:zez X t)
  (ha:∀v,assign (.Subscript o i pos) X.env v=(do
   let a<-holding [v] (eval o X.env)
   let b<-holding [v,a] (eval i X.env)
   standAt pos
   holding [v,a,b] (setItem a b v)
   release [v,a,b] []):=by intro _;rfl):PG X (.Subscript o i pos) (zft to c t):=by
 intro pins s σ H v u Q I r h;rw [ha];refine wC (QV (thn (l pins s σ H _ I h) ?_));rintro a s1 ⟨x,H1,f,r1,q1⟩;refine wC (QV (thn (hi pins s1 σ H1 _ f q1) ?_));rintro b s2 ⟨y,H2,n,r2,d⟩;refine wC (wpAny_standAt (wC (QV (thn (hs pins s2 σ H2 x y v a b u _ n r1 r2 r d) ?_))));rintro _ q ⟨e,p,j⟩;exact wpAny_release ⟨σ,e,p,j⟩
def ze0(te:TE)(g:TG):TS:=λD σ H=>te σ H λx H1=>g x σ H1 D.nx
theorem z7X{g:TG}(d:PE X e te)(c:PG X tg g)(hs:swapsWithSole [tg] e pos.line X.env=pure false:=by rfl)(a:swappedStores [tg] e X.env=pure none:=by rfl)
  (h1:(assignEach [tg] X.env).map (·.2)= [assign tg X.env]:=by rfl):PS X (.Assign [tg] e pos) (ze0 te g):=by
 intro pins s σ H D I h;refine wpAny_Assign_stores (thn (d pins s σ H _ I h) ?_) hs a;rintro v s1 ⟨x,H1,b,r1,q1⟩;rw [h1];exact thn (c pins s1 σ H1 x v _ b r1 q1) λ_ s2 q=>q
theorem kf{pos':Pos}(c:X.N.Nodup)(hi:X.N[i]? =some x)(j:Loc X.env.scope x)(f:PE X e te)(hs:swapsWith e (some (.Name x pos')) pos.line X.env=pure false:=by rfl)(a:X.fn x=true\/X.env.scope.names.lookup x=some .local:=by first | exact .inl rfl | exact .inr rfl | assumption):
  PS X (.Assign [.Name x pos'] e pos) (ze0 te (z1Z i)):=by
 intro pins s σ H D I h;refine wpAny_Assign_Name (thn (f pins s σ H _ I h) ?_) hs;rintro v s1 ⟨y,H1,b,r1,q1⟩;exact z6D b c hi j r1 (λs2 d=>⟨_,H1,d,q1⟩) a
end
variable{tb:TS}{body:List Stmt}
section
variable{pos:Pos}
def z1s(c:TT)(tb:TS):TS:=λD σ H=>∃W:Nat->St->Hp->Prop,(∃m,W m σ H)/\∀m σ H,W m σ H->
 c σ H λb H1=>if b=true then∃N:St->Hp->Prop,(∀σ' H',N σ' H'->∃a,a < m/\W a σ' H')/\tb {D with nx:=N,ct:=N,bk:=D.nx} σ H1 else D.nx σ H1
theorem zbA(hp:PassesOwn (model X.prog X.w) X.A X.env X.xe)(hc:PT X c tc)(r:PSs X body tb):PS X (.While c body [] pos) (z1s tc tb):=by
 intro pins s σ H D I h;obtain⟨W,⟨u,w0⟩,turn⟩:=h;refine wpAny_While (codeAny_whileLoop (λn s'=>∃σ' H',Inv X pins σ' H' s'/\W n σ' H') ?_ u ⟨σ,H,I,w0⟩);rintro n s1 ⟨σ1,H1,t,w1⟩;refine w0E hp (thn (hc pins s1 σ1 H1 _ t (turn n σ1 H1 w1)) ?_);rintro b s2 ⟨H2,q,e⟩;cases b with
 | true=>
  obtain⟨N,p,e⟩:=e;rw [wY rfl];refine w0E hp (thn (r pins s2 σ1 H2 _ q e) λf x d=> ?_);cases f with
  | next=>
   obtain⟨σ3,a,o,i⟩:=d;obtain⟨l,hm,j⟩:=p σ3 a i;exact⟨l,hm,σ3,a,o,j⟩
  | cont=>
   obtain⟨σ3,a,o,i⟩:=d;obtain⟨l,hm,j⟩:=p σ3 a i;exact⟨l,hm,σ3,a,o,j⟩
  | brk=>exact d
  | ret v=>exact d
 | false=>
  rw [wU wT];exact wpAny_execs_nil ⟨σ1,H2,q,e⟩
end
structure It where
 go:Nat->Hp->Prop
 yld:Nat->Hp->V->Hp->Prop
 stop:Nat->Hp->Prop
def z3O(X:Cx)(pins:List (Addr×Obj))(H:Hp)(b:Addr):Prop:=
 H b=none/\b≠X.env.locals/\b∉X.fs/\(b∈X.ex\/X.s₀.heap.objs.size<=b)/\(∀x c,X.env.cells.lookup x=some c->c≠b)/\∀p∈X.pn ++ pins,p.1≠b
variable{σ:St}
theorem Inv.fpOk(I:Inv X pins σ H s)(a:s.heap.objs.size<=b)(hn:H' b=none):z3O X pins H' b:=by
 refine⟨hn,QN (wZ I.lt a),I.nofs a,.inr (wW I.sz a),λx c e z=> ?_,λp hp z=> ?_⟩
 ·obtain⟨v,q⟩:=I.cell x c e;exact absurd (wZ q.lt (by rw [z];exact a)) (QC _)
 ·exact absurd (wZ (wN (I.pin p hp).1) (by rw [z];exact a)) (QC _)
structure Turn(P:Program)(w:World)(K:W.Frag)(tg:Expr)(J:It)(fp:List Addr)(it:Addr)(tn:Nat->Heap->Prop):Prop where
 mem:it∈fp
 obj:∀i h,tn i h->∀b∈fp,∃o,h.get? b=some o/\∀v,o.data≠ .cell v
 keep:∀i h h',tn i h->(∀b∈fp,∀o,h.get? b=some o->h'.get? b=some o)->tn i h'
 item:∀(X:Cx),X.prog=P->X.w=w->X.K=K->X.calm=true->∀(i:Nat) (pins:List (Addr×Obj)) (s:Shared) (σ:St) (H:Hp) (E:Value->Shared->Prop),Inv X pins σ H s->(∀b∈fp,z3O X pins H b)->tn i s.heap->J.go i H->
  wpAny (model P w) X.A (pyNext (.ref it)) (λr s1=>∃u,r=some u/\
   wpAny (model P w) X.A (letOwnedTupleGo tg (.ref it) u) (λ_ s2=>∃x H',Inv X pins σ H' s2/\RelV x u/\J.yld i H x H'/\tn (i + 1) s2.heap/\∀b∈fp,H' b=none) E s1) E s
 done:∀(X:Cx),X.prog=P->X.w=w->X.K=K->X.calm=true->∀(i:Nat) (pins:List (Addr×Obj)) (s:Shared) (σ:St) (H:Hp) (E:Value->Shared->Prop),Inv X pins σ H s->(∀b∈fp,z3O X pins H b)->tn i s.heap->J.stop i H->
  wpAny (model P w) X.A (pyNext (.ref it)) (λr s1=>r=none/\Inv X pins σ H s1) E s
 self:∀(A:Around) (i:Nat) (s:Shared) (Q:Value->Shared->Prop) (E:Value->Shared->Prop),tn i s.heap->Q (.ref it) s->wpAny (model P w) A (pyIter (.ref it)) Q E s
abbrev TI:=St->Hp->(It->Hp->Prop)->Prop
def PIE(X:Cx)(pins:List (Addr×Obj))(σ:St)(tg:Expr)(R:It->Hp->Prop)(a:Value)(s2:Shared):Prop:=
 ∃(it:Addr) (fp:List Addr) (tn:Nat->Heap->Prop) (J:It) (H':Hp),a= .ref it/\Inv X pins σ H' s2/\Turn X.prog X.w X.K tg J fp it tn/\tn 0 s2.heap/\(∀b∈fp,z3O X pins H' b)/\R J H'
def PI(X:Cx)(tg iter:Expr)(wi:TI):Prop:=
 ∀(pins:List (Addr×Obj)) (s:Shared) (σ:St) (H:Hp) (R:It->Hp->Prop),Inv X pins σ H s->wi σ H R->
  wpAny (model X.prog X.w) X.A (eval iter X.env) (λv s1=>wpAny (model X.prog X.w) X.A (pyIter v) (PIE X pins σ tg R) X.xe s1) X.xe s
theorem z93{o:Obj}{n:String}{vs:Array Value}{Q:Unit->Shared->Prop}(b:s.heap.get? it=some o)(hc:o.cls= .type n)(hd:o.data= .fields vs)
  (hn: ["enumerate","zip","dict_itemiterator","dict_reverseitemiterator","odict_iterator","itertools.zip_longest","itertools.pairwise"].contains n=false) (a:Q () s):wpAny M A (letOwnedTupleGo tg (.ref it) u) Q E s:=by
 unfold letOwnedTupleGo;cases tg <;> first
  | exact qd a
  | (cases u <;> first
    | exact qd a
    | (refine wC (wpAny_load b ?_)
       rw [hc,hd]
       show wpAny M A (if(["enumerate","zip","dict_itemiterator","dict_reverseitemiterator","odict_iterator","itertools.zip_longest","itertools.pairwise"].contains n && vs[0]? == some (rawInt _))=true then _ else _) Q E s
       rw [wU (by intro h;rw [hn,w1B]at h;cases h)];exact qd a))
noncomputable def Itl(K:W.Frag)(a:Addr):It:=
 ⟨λi H=>∃xs x,SqL K H a xs/\xs[i]? =some x,λi H x H'=>H'=H/\∀xs,SqL K H a xs->xs[i]? =some x,λi H=>∃xs,SqL K H a xs/\xs.length<=i⟩
noncomputable def Itt(K:W.Frag)(a:Addr):It:=
 ⟨λi H=>∃xs x,SqT K H a xs/\xs[i]? =some x,λi H x H'=>H'=H/\∀xs,SqT K H a xs->xs[i]? =some x,λi H=>∃xs,SqT K H a xs/\xs.length<=i⟩
noncomputable def Itr(lo:Int)(n:Nat):It:=⟨λi _=>i < n,λi H x H'=>H'=H/\x= .int (lo + i),λi _=>n<=i⟩
variable{K:W.Frag}
theorem z9q(a it:Addr):Turn P w K tg (Itl K a) [it] it (λi h=>h.IsListIter it a i) where
 mem:=by simp
 obj:=λi h st b f=>by
  have e:b=it:=by simpa using f
  subst e;obtain⟨o,e,c,d⟩:=st;exact⟨o,e,λv z=>by rw [d]at z;cases z⟩
 keep:=λi h h' st k=>st.at λo e=>k it (by simp) o e
 item:=by
  intro X B l y hc i pins s σ H E I j st r;subst B l y;obtain⟨xs,x,hq,C⟩:=r;obtain⟨its,A,p,hz⟩:=I.list hq;obtain⟨u,G,L⟩:=A.get C;obtain⟨f0,f1,f2,q,n,t⟩:=j it (by simp);refine wpAny_pyNext_list_item st p.isList (x:=u) (by simpa using G) λh' D N=> ?_
  have J:Inv X pins σ H {s with heap:=h'}:=I.turned (t':=s.toks) (λb o f e=>(N.2 b f).trans e) f0 f1 q n t;obtain⟨o,e,c,d⟩:=id D;exact⟨u,rfl,z93 (s:={s with heap:=h'}) e c d (by decide) ⟨x,H,J,L,⟨rfl,λys F=>by rw [I.list_inj F hq];exact C⟩,D,λb f=>(j b f).1⟩⟩
 done:=by
  intro X B l y hc i pins s σ H E I j st r;subst B l y;obtain⟨xs,hq,C⟩:=r;obtain⟨its,A,p,hz⟩:=I.list hq;obtain⟨f0,f1,f2,q,n,t⟩:=j it (by simp);have hl:=A.length;exact wpAny_pyNext_list_end (I.ok.hd hc) st p.isList (by simp;lia) λh' M=>⟨rfl,I.turned (t':=s.toks) (λb o f e=>M b o f e) f0 f1 q n t⟩
 self:=λ_ _ _ _ _ st h=>wpAny_pyIter_listiter st h
theorem z7Y(a it:Addr):Turn P w K tg (Itt K a) [it] it (λi h=>h.IsTupleIter it a i) where
 mem:=by simp
 obj:=λi h st b f=>by
  have e:b=it:=by simpa using f
  subst e;obtain⟨o,e,c,d⟩:=st;exact⟨o,e,λv z=>by rw [d]at z;cases z⟩
 keep:=λi h h' st k=>st.at λo e=>k it (by simp) o e
 item:=by
  intro X B l y hc i pins s σ H E I j st r;subst B l y;obtain⟨xs,x,hq,C⟩:=r;obtain⟨its,A,p,hz⟩:=I.tuple hq;obtain⟨u,G,L⟩:=A.get C;obtain⟨f0,f1,f2,q,n,t⟩:=j it (by simp);refine wpAny_pyNext_tuple_item st (show s.heap.IsTuple a its.toArray from p) (x:=u) (by simpa using G) λh' D N=> ?_
  have J:Inv X pins σ H {s with heap:=h'}:=I.turned (t':=s.toks) (λb o f e=>(N.2 b f).trans e) f0 f1 q n t;obtain⟨o,e,c,d⟩:=id D;exact⟨u,rfl,z93 (s:={s with heap:=h'}) e c d (by decide) ⟨x,H,J,L,⟨rfl,λys F=>by rw [I.tuple_inj F hq];exact C⟩,D,λb f=>(j b f).1⟩⟩
 done:=by
  intro X B l y hc i pins s σ H E I j st r;subst B l y;obtain⟨xs,hq,C⟩:=r;obtain⟨its,A,p,hz⟩:=I.tuple hq;obtain⟨f0,f1,f2,q,n,t⟩:=j it (by simp);have hl:=A.length;exact wpAny_pyNext_tuple_end (I.ok.hd hc) st (show s.heap.IsTuple a its.toArray from p) (by simp;lia) λh' M=>⟨rfl,I.turned (t':=s.toks) (λb o f e=>M b o f e) f0 f1 q n t⟩
 self:=λ_ _ _ _ _ st h=>wpAny_pyIter_tupleiter st h
theorem z7k(it:Addr)(lo:Int)(n:Nat):Turn P w K tg (Itr lo n) [it] it (λi h=>IsRangeIter h it (lo + (i:Nat) * 1) ((n:Int) - (i:Nat)) 1) where
 mem:=by simp
 obj:=λi h st b a=>by
  have e:b=it:=by simpa using a
  subst e;exact⟨_,st,λv z=>by
   have A:Data.fields _=Data.cell v:=z;cases A⟩
 keep:=λi h h' st k=>k it (by simp) _ st
 item:=by
  intro X r d q hc i pins s σ H E I c st l;subst r d q;obtain⟨f0,f1,f2,j,f,p⟩:=c it (by simp);have W:=Walks.range (prog:=X.prog) (w:=X.w) (I.ok.hd hc) it lo 1 n;refine W.item i s _ _ l st λv h' tk x u kk=> ?_
  obtain⟨t,rfl⟩:=x;have y:Inv X pins σ H {s with heap:=h',toks:=tk}:=I.turned (λb o a e=>kk b o (by simpa using a) e) f0 f1 j f p;refine⟨_,rfl,z93 (s:={s with heap:=h',toks:=tk}) (n:="range_iterator") u rfl rfl (by decide) ⟨.int (lo + i),H,y,⟨t,?_⟩,⟨rfl,rfl⟩,u,λb a=>(c b a).1⟩⟩;rw [Int.mul_one]
 done:=by
  intro X r d q hc i pins s σ H E I c st l;subst r d q;obtain⟨f0,f1,f2,j,f,p⟩:=c it (by simp);exact wpAny_pyNext_range_end (I.ok.hd hc) st (by have:n<=i:=l;lia) λh' B=>⟨rfl,I.turned (t':=s.toks) (λb o a e=>B b o a e) f0 f1 j f p⟩
 self:=λ_ _ _ _ _ st h=>wpAny_pyIter_rangeiter st h
variable{l:Expr}{tl:TE}{p:Pos}{fp:List Addr}
def zcY(K:W.Frag)(tl:TE):TI:=λσ H R=>tl σ H λx H1=>∃a,x= .ref a/\(∃xs,SqL K H1 a xs)/\R (Itl K a) H1
def zfu(K:W.Frag)(tl:TE):TI:=λσ H R=>tl σ H λx H1=>∃a,x= .ref a/\(∃xs,SqT K H1 a xs)/\R (Itt K a) H1
theorem jb(hl:PE X l tl):PI X tg l (zcY X.K tl):=by
 intro pins s σ H R I h;refine thn (hl pins s σ H _ I h) ?_;rintro v s1 ⟨x,H1,c,r1,q1⟩;obtain⟨a,e,⟨xs,hq⟩,q⟩:=q1;subst e;cases r1;obtain⟨its,f,p,hz⟩:=c.list hq;refine wpAny_pyIter_list p.isList ?_;refine⟨s1.heap.objs.size,[s1.heap.objs.size],_,_,H1,rfl,c.kept (t':=s1.toks) λb o e=>wo _ e,z9q a _,⟨_,qi _ rfl,rfl,rfl⟩,λb d=> ?_,q⟩;have e:b=s1.heap.objs.size:=by simpa using d
 subst e;exact c.fpOk (wu _) (c.hok.fresh (wu _))
theorem z3q(hl:PE X l tl):PI X tg l (zfu X.K tl):=by
 intro pins s σ H R I h;refine thn (hl pins s σ H _ I h) ?_;rintro v s1 ⟨x,H1,c,r1,q1⟩;obtain⟨a,e,⟨xs,hq⟩,q⟩:=q1;subst e;cases r1;obtain⟨its,f,p,hz⟩:=c.tuple hq;refine wpAny_pyIter_tuple (show s1.heap.IsTuple a its.toArray from p) ?_;refine⟨s1.heap.objs.size,[s1.heap.objs.size],_,_,H1,rfl,c.kept (t':=s1.toks) λb o e=>wo _ e,z7Y a _,⟨_,qi _ rfl,rfl,rfl⟩,λb d=> ?_,q⟩;have e:b=s1.heap.objs.size:=by simpa using d
 subst e;exact c.fpOk (wu _) (c.hok.fresh (wu _))
theorem z7i{R:It->Hp->Prop}{lo hi:Int}{t u v:Tok}{tk:Nat}(I:Inv X pins σ H s)(h1: -(2 ^ 62)<=lo)(h2:lo < 2 ^ 62)(h: -(2 ^ 62)<=hi)(d:hi < 2 ^ 62)
  (q:R (Itr lo (hi - lo).toNat) H):wpAny (model X.prog X.w) X.A (pyIter (.ref s.heap.objs.size)) (PIE X pins σ tg R) E {s with heap:=s.heap.push {cls:= .type "range",data:= .fields #[.int lo t,.int hi u,.int 1 v]},toks:=tk}:=by
 refine wpAny_pyIter_range (IsRange.new ..) (small_one h1 h2 h d) ?_;have a:Inv X pins σ H {s with heap:=s.heap.push {cls:= .type "range",data:= .fields #[.int lo t,.int hi u,.int 1 v]},toks:=tk}:=I.kept λb o e=>wo _ e
 refine⟨(s.heap.push {cls:= .type "range",data:= .fields #[.int lo t,.int hi u,.int 1 v]}).objs.size,[(s.heap.push {cls:= .type "range",data:= .fields #[.int lo t,.int hi u,.int 1 v]}).objs.size],_,_,H,rfl,
  a.kept (t':=tk) λb o e=>wo _ e,z7k _ lo (hi - lo).toNat,?_,λb c=> ?_,q⟩
 ·have f:lo + ((0:Nat):Int) * 1=lo:=by simp
  have i:(((hi - lo).toNat:Nat):Int) - ((0:Nat):Int)=Builtin.Range.rangeSize lo hi 1:=by rw [rangeSize_one];split <;> lia
  show IsRangeIter _ _ (lo + ((0:Nat):Int) * 1) ((((hi - lo).toNat:Nat):Int) - ((0:Nat):Int)) 1
  rw [f,i];exact qi _ rfl
 ·have e:b=(s.heap.push {cls:= .type "range",data:= .fields #[.int lo t,.int hi u,.int 1 v]}).objs.size:=by simpa using c
  subst e;exact a.fpOk (wu _) (a.hok.fresh (wu _))
def zeV(ta:TA):TI:=λσ H R=>ta σ H λvs H1=>∃j:Int,vs= [.int j]/\-(2 ^ 62)<=j/\j < 2 ^ 62/\R (Itr 0 j.toNat) H1
def zeu(ta:TA):TI:=λσ H R=>ta σ H λvs H1=>∃i j:Int,vs= [.int i,.int j]/\(-(2 ^ 62)<=i/\i < 2 ^ 62/\-(2 ^ 62)<=j/\j < 2 ^ 62)/\R (Itr i (j - i).toNat) H1
theorem jW{a:Expr}{ta:TA}{pos:Pos}(f:Gl X "range")(hm:X.mg "range"=none)(ha:PA X [a] ta)(hs:starEach [a] X.env= [(false,eval a X.env)]:=by rfl):PI X tg (.Call (.Name "range" p) [a] [] pos) (zeV ta):=by
 intro pins s σ H R I h;refine Call_ (z1l I f hm boot_range (Qb (thn (ha pos pins s σ H _ I h) ?_) hs rfl));rintro us s1 ⟨vs,H1,c,r1,q1⟩;obtain⟨j,e,q1,b,q⟩:=q1;subst e;cases r1 with
 | cons r d=>
  cases d;obtain⟨t,rfl⟩:=r;exact call_range_1 (z7i c (by lia) (by lia) q1 b (by simpa using q))
theorem z5u{a b:Expr}{ta:TA}{pos:Pos}(o:Gl X "range")(hm:X.mg "range"=none)(ha:PA X [a,b] ta)(hs:starEach [a,b] X.env= [(false,eval a X.env),(false,eval b X.env)]:=by rfl)(d:starEach [b] X.env= [(false,eval b X.env)]:=by rfl):
  PI X tg (.Call (.Name "range" p) [a,b] [] pos) (zeu ta):=by
 intro pins s σ H R I h;refine Call_ (z1l I o hm boot_range (Qb (thn (ha pos pins s σ H _ I h) ?_) (by rw [hs,d]) (by rw [d];rfl)));rintro us s1 ⟨vs,H1,n,r1,q1⟩;obtain⟨i,j,e,⟨q1,f,l,u⟩,q⟩:=q1;subst e;cases r1 with
 | cons r c=>
  cases c with
  | cons r' c=>
   cases c;obtain⟨t,rfl⟩:=r;obtain⟨t',rfl⟩:=r';exact call_range_2 (z7i n q1 f l u q)
def z9X(wi:TI)(g:TG)(tb:TS):TS:=λD σ H=>wi σ H λJ H1=>∃W:Nat->Nat->St->Hp->Prop,(∃m,W 0 m σ H1)/\∀i m σ H,W i m σ H->
 (J.stop i H/\D.nx σ H)\/(J.go i H/\∃N:St->Hp->Prop,(∀σ' H',N σ' H'->∃a,a < m/\W (i + 1) a σ' H')/\∀x H',J.yld i H x H'->g x σ H' λσ2 H2=>tb {D with nx:=N,ct:=N,bk:=D.nx} σ2 H2)
noncomputable def z4P(fp:List Addr)(h:Heap):List (Addr×Obj):=fp.filterMap λb=>(h.get? b).map λo=>(b,o)
theorem z1k{o:Obj}(a:b∈fp)(e:h.get? b=some o):(b,o)∈z4P fp h:=List.mem_filterMap.mpr ⟨b,a,by rw [e];rfl⟩
theorem z96{p:Addr×Obj}(hp:p∈z4P fp h):p.1∈fp/\h.get? p.1=some p.2:=by
 obtain⟨b,a,e⟩:=List.mem_filterMap.mp hp;cases q:h.get? b with
 | none=>rw [q]at e;cases e
 | some o=>
  rw [q]at e;have c:(b,o)=p:=Option.some.inj e;subst c;exact⟨a,q⟩
theorem Inv.pinned(I:Inv X pins σ H s)(f:∀b∈fp,z3O X pins H b)(h:∀b∈fp,∃o,s.heap.get? b=some o/\∀v,o.data≠ .cell v):Inv X (pins ++ z4P fp s.heap) σ H s:=
 I.pins_of λp hp=>(wA.mp hp).elim (λz=>I.pin p (wG _ z)) λz=>by
  obtain⟨a,e⟩:=z96 z;obtain⟨f0,f1,f2,_⟩:=f p.1 a;obtain⟨o,c,d⟩:=h p.1 a;rw [e]at c;cases c;exact⟨e,f0,f1,f2,d⟩
def Inv.unpinned{pl:List (Addr×Obj)}(I:Inv X (pins ++ pl) σ H s):Inv X pins σ H s:=I.pins_of λp hp=>I.pin p (wG _ (qc _ hp))
theorem ze1{iter:Expr}{wi:TI}{g:TG}{pos:Pos}(hp:PassesOwn (model X.prog X.w) X.A X.env X.xe)(hc:X.calm=true)(hi:PI X tg iter wi)(hg:PG X tg g)(c:PSs X body tb)
  (hs:∀x,foldedSetIterable iter X.env x=pure x:=by intro _;rfl):PS X (.For tg iter body [] pos) (z9X wi g tb):=by
 intro pins s σ H D I h;refine wpAny_For (thn (hi pins s σ H _ I h) λv s1 h1=>thn h1 λlZ s2 h2=> ?_) hs;obtain⟨it,fp,tn,J,H2,e,Q,T,Z,f2,W,⟨m0,w0⟩,turn⟩:=h2;subst e;have B:∀{H':Hp},(∀b∈fp,H' b=none)->∀b∈fp,z3O X pins H' b:=λhn b c=>⟨hn b c,(f2 b c).2⟩
 refine codeAny_forLoop_any (λn s'=>∃i σ' H',Inv X pins σ' H' s'/\tn i s'.heap/\(∀b∈fp,H' b=none)/\W i n σ' H') ?_ m0 ⟨0,σ,H2,Q,Z,λb c=>(f2 b c).1,w0⟩;rintro n K ⟨i,σ3,q,F,E,L,P⟩;rcases turn i n σ3 q P with⟨stop,qn⟩ | ⟨go,N,hN,step⟩
 ·refine w0E hp (thn (T.done X rfl rfl rfl hc i pins K σ3 q X.xe F (B L) E stop) ?_);rintro r M ⟨hr,R⟩;subst hr;exact wpAny_execs_nil ⟨σ3,q,R,qn⟩
 ·refine w0E hp (thn (T.item X rfl rfl rfl hc i pins K σ3 q X.xe F (B L) E go) ?_);rintro r M ⟨u,hr,h4⟩;subst hr;refine w0E hp (thn h4 ?_);rintro _ C ⟨x,G,S,Y,y5,t,nH⟩;have z:=S.pinned (B nH) (T.obj _ _ t);refine w0E hp (thn (hg _ C σ3 G x u _ z Y (step x G y5)) ?_);rintro _ U ⟨σ6,H6,I6,q6⟩;refine w0E hp (thn (c _ U σ6 H6 _ I6 q6) λf y l=> ?_);have again:∀{σ7:St} {a:Hp},Inv X (pins ++ z4P fp C.heap) σ7 a y->N σ7 a->∃m,m < n/\∃i σ' H',Inv X pins σ' H' y/\tn i y.heap/\(∀b∈fp,H' b=none)/\W i m σ' H':=λ{σ7 a} j p=>by
   obtain⟨m',hm,w7⟩:=hN σ7 a p;refine⟨m',hm,i + 1,σ7,a,j.unpinned,T.keep _ _ _ t λb c o e=>(j.pin (b,o) (wG _ (wG _ (z1k c e)))).1,λb c=> ?_,w7⟩;obtain⟨o,e,d⟩:=T.obj _ _ t b c;exact(j.pin (b,o) (wG _ (wG _ (z1k c e)))).2.1
  cases f with
  | next=>obtain⟨σ7,a,j,p⟩:=l;exact again j p
  | cont=>obtain⟨σ7,a,j,p⟩:=l;exact again j p
  | brk=>obtain⟨σ7,a,j,l⟩:=l;exact⟨σ7,a,j.unpinned,l⟩
  | ret v=>obtain⟨x7,σ7,a,j,O,l⟩:=l;exact⟨x7,σ7,a,j.unpinned,O,l⟩
theorem z0B{g:TG}(b:Nat->St->Hp->Prop)(h0:b 0 σ H)(hl:∀i σ H,i<=xs.length->b i σ H->SqL K H a xs)
  (hs:∀i x σ H,xs[i]? =some x->b i σ H->g x σ H λσ2 H2=>tb {D with nx:=b (i + 1),ct:=b (i + 1),bk:=D.nx} σ2 H2) (hd:∀σ H,b xs.length σ H->D.nx σ H):
  ∃W:Nat->Nat->St->Hp->Prop,(∃m,W 0 m σ H)/\∀i m σ H,W i m σ H->
   ((Itl K a).stop i H/\D.nx σ H)\/((Itl K a).go i H/\∃N:St->Hp->Prop,(∀σ' H',N σ' H'->∃c,c < m/\W (i + 1) c σ' H')/\∀x H',(Itl K a).yld i H x H'->g x σ H' λσ2 H2=>tb {D with nx:=N,ct:=N,bk:=D.nx} σ2 H2):=by
 refine⟨λi m σ H=>m=xs.length - i/\i<=xs.length/\b i σ H,⟨xs.length,by simp,Q6 _,h0⟩,?_⟩;rintro i m σ H ⟨rfl,hi,p⟩;have q:=hl i σ H hi p;by_cases ag:i < xs.length
 ·refine .inr ⟨⟨xs,xs[i],q,by simp [ag]⟩,b (i + 1),λσ' H' p'=>⟨xs.length - (i + 1),by lia,rfl,ag,p'⟩,λx H' y=> ?_⟩;obtain⟨e,y⟩:=y;subst e;exact hs i x σ _ (y xs q) p
 ·have e:i=xs.length:=by lia
  subst e;exact .inl ⟨⟨xs,q,wu _⟩,hd σ H p⟩
theorem z61{g:TG}(b:Nat->St->Hp->Prop)(h0:b 0 σ H)(hl:∀i σ H,i<=xs.length->b i σ H->SqT K H a xs)
  (hs:∀i x σ H,xs[i]? =some x->b i σ H->g x σ H λσ2 H2=>tb {D with nx:=b (i + 1),ct:=b (i + 1),bk:=D.nx} σ2 H2) (hd:∀σ H,b xs.length σ H->D.nx σ H):
  ∃W:Nat->Nat->St->Hp->Prop,(∃m,W 0 m σ H)/\∀i m σ H,W i m σ H->
   ((Itt K a).stop i H/\D.nx σ H)\/((Itt K a).go i H/\∃N:St->Hp->Prop,(∀σ' H',N σ' H'->∃c,c < m/\W (i + 1) c σ' H')/\∀x H',(Itt K a).yld i H x H'->g x σ H' λσ2 H2=>tb {D with nx:=N,ct:=N,bk:=D.nx} σ2 H2):=by
 refine⟨λi m σ H=>m=xs.length - i/\i<=xs.length/\b i σ H,⟨xs.length,by simp,Q6 _,h0⟩,?_⟩;rintro i m σ H ⟨rfl,hi,p⟩;have q:=hl i σ H hi p;by_cases ag:i < xs.length
 ·refine .inr ⟨⟨xs,xs[i],q,by simp [ag]⟩,b (i + 1),λσ' H' p'=>⟨xs.length - (i + 1),by lia,rfl,ag,p'⟩,λx H' y=> ?_⟩;obtain⟨e,y⟩:=y;subst e;exact hs i x σ _ (y xs q) p
 ·have e:i=xs.length:=by lia
  subst e;exact .inl ⟨⟨xs,q,wu _⟩,hd σ H p⟩
theorem z0v{lo:Int}{g:TG}(a:Nat->St->Hp->Prop)(h0:a 0 σ H)
  (hs:∀i σ H,i < n->a i σ H->g (.int (lo + i)) σ H λσ2 H2=>tb {D with nx:=a (i + 1),ct:=a (i + 1),bk:=D.nx} σ2 H2) (hd:∀σ H,a n σ H->D.nx σ H):
  ∃W:Nat->Nat->St->Hp->Prop,(∃m,W 0 m σ H)/\∀i m σ H,W i m σ H->
   ((Itr lo n).stop i H/\D.nx σ H)\/((Itr lo n).go i H/\∃N:St->Hp->Prop,(∀σ' H',N σ' H'->∃b,b < m/\W (i + 1) b σ' H')/\∀x H',(Itr lo n).yld i H x H'->g x σ H' λσ2 H2=>tb {D with nx:=N,ct:=N,bk:=D.nx} σ2 H2):=by
 refine⟨λi m σ H=>m=n - i/\i<=n/\a i σ H,⟨n,by simp,Q6 _,h0⟩,?_⟩;rintro i m σ H ⟨rfl,hi,p⟩;by_cases ag:i < n
 ·refine .inr ⟨ag,a (i + 1),λσ' H' p'=>⟨n - (i + 1),by lia,rfl,ag,p'⟩,λx H' y=> ?_⟩;obtain⟨e,y⟩:=y;subst e y;exact hs i σ _ ag p
 ·have e:i=n:=by lia
  subst e;exact .inl ⟨wu _,hd σ H p⟩
abbrev R2:=V->V->Hp->VK->Prop
def OpR(X:Cx)(f:Value->Value->Sem Value)(r:R2):Prop:=
 ∀(pins:List (Addr×Obj)) (s:Shared) (σ:St) (H:Hp) (x y:V) (v u:Value) (Q:VK),Inv X pins σ H s->RelV x v->RelV y u->r x y H Q->
  wpAny (model X.prog X.w) X.A (f v u) (EP X pins σ Q) X.xe s
def UnR(X:Cx)(f:Value->Sem Value)(r:V->Hp->VK->Prop):Prop:=
 ∀(pins:List (Addr×Obj)) (s:Shared) (σ:St) (H:Hp) (x:V) (v:Value) (Q:VK),Inv X pins σ H s->RelV x v->r x H Q->
  wpAny (model X.prog X.w) X.A (f v) (EP X pins σ Q) X.xe s
def kj(X:Cx)(f:Value)(r:List V->Hp->VK->Prop):Prop:=
 ∀(pins:List (Addr×Obj)) (s:Shared) (σ:St) (H:Hp) (xs:List V) (us:List Value) (Q:VK),Inv X pins σ H s->zQ xs us->r xs H Q->
  wpAny (model X.prog X.w) X.A (call f us) (EP X pins σ Q) X.xe s
def zfj(X:Cx)(r:V->Hp->(Bool->Hp->Prop)->Prop):Prop:=
 ∀(pins:List (Addr×Obj)) (s:Shared) (σ:St) (H:Hp) (x:V) (v:Value) (Q:Bool->Hp->Prop),Inv X pins σ H s->RelV x v->r x H Q->
  wpAny (model X.prog X.w) X.A (truthy v) (TP X pins σ Q) X.xe s
def tOp(r:R2)(ta tb:TE):TE:=λσ H Q=>ta σ H λx H1=>tb σ H1 λy H2=>r x y H2 Q
def tUn(r:V->Hp->VK->Prop)(ta:TE):TE:=λσ H Q=>ta σ H λx H1=>r x H1 Q
def rI(C:Int->Int->Prop)(g:Int->Int->V):R2:=λx y H Q=>∃i j,x= .int i/\y= .int j/\C i j/\Q (g i j) H
def rI0(g:Int->Int->V):R2:=λx y H Q=>∃i j,x= .int i/\y= .int j/\Q (g i j) H
def rU(g:Int->V):V->Hp->VK->Prop:=λx H Q=>∃i,x= .int i/\Q (g i) H
variable{f:Value->Value->Sem Value}
section
variable{a b:Expr}{tb tc:TE}{pos:Pos}
theorem zee(ha:PE X a ta)(d:PE X b tb){R:V->V->Hp->Prop}(I:Inv X pins σ H s)
  (h:ta σ H λx H1=>tb σ H1 λy H2=>R x y H2)  
  (e:∀v u s2 x y H2,Inv X pins σ H2 s2->RelV x v->RelV y u->R x y H2->wpAny (model X.prog X.w) X.A (f v u) Q X.xe s2):
  wpAny (model X.prog X.w) X.A (eval a X.env) (λv l=>wpAny (model X.prog X.w) X.A (eval b X.env) (λu c=>wpAny (model X.prog X.w) X.A (f v u) Q X.xe c) X.xe l) X.xe s:=by
 refine thn (ha pins s σ H _ I h) ?_;rintro v s1 ⟨x,H1,j,r1,q1⟩;refine thn (d pins s1 σ H1 _ j q1) ?_;rintro u s2 ⟨y,H2,n,r2,i⟩;exact e v u s2 x y H2 n r1 r2 i
theorem zr{op:Operator}{r:R2}(f:OpR X (binaryOp op) r)(ha:PE X a ta)(c:PE X b tb):PE X (.BinOp a op b pos) (tOp r ta tb):=by
 intro pins s σ H Q I h;exact wpAny_BinOp (zee ha c I h λv u s2 x y H2 i e d q=>f pins s2 σ H2 x y v u Q i e d q)
theorem z0z{op:UnaryOp}{r:V->Hp->VK->Prop}(b:UnR X (unaryOp op) r)(ha:PE X a ta):PE X (.UnaryOp op a pos) (tUn r ta):=by
 intro pins s σ H Q I h;exact UnaryOp_ (thn (ha pins s σ H _ I h) λv s1 ⟨x,H1,c,r1,q1⟩=>b pins s1 σ H1 x v Q c r1 q1)
theorem opI{C:Int->Int->Prop}{g:Int->Int->Int}
  (rule:∀(i j:Int) (t u:Tok) (s:Shared) (Q:Value->Shared->Prop) (E:Value->Shared->Prop),C i j->Q (.int (g i j) s.toks) {s with toks:=s.toks + 1}->wpAny (model X.prog X.w) X.A (f (.int i t) (.int j u)) Q E s):
  OpR X f (rI C λi j=> .int (g i j)):=by
 intro pins s σ H x y v u Q I b a h;obtain⟨i,j,rfl,rfl,hc,q⟩:=h;obtain⟨t,rfl⟩:=b;obtain⟨t',rfl⟩:=a;exact rule i j t t' s _ _ hc ⟨.int (g i j),H,I.tok _,⟨_,rfl⟩,q⟩
theorem zeU{g:Int->Int->Int}
  (rule:∀(i j:Int) (t u:Tok) (s:Shared) (Q:Value->Shared->Prop) (E:Value->Shared->Prop),Q (.int (g i j) s.toks) {s with toks:=s.toks + 1}->wpAny (model X.prog X.w) X.A (f (.int i t) (.int j u)) Q E s):
  OpR X f (rI0 λi j=> .int (g i j)):=by
 intro pins s σ H x y v u Q I b a h;obtain⟨i,j,rfl,rfl,q⟩:=h;obtain⟨t,rfl⟩:=b;obtain⟨t',rfl⟩:=a;exact rule i j t t' s _ _ ⟨.int (g i j),H,I.tok _,⟨_,rfl⟩,q⟩
theorem zdZ{g:Int->Int->Bool}
  (rule:∀(i j:Int) (t u:Tok) (s:Shared) (Q:Value->Shared->Prop) (E:Value->Shared->Prop),Q (.bool (g i j)) s->wpAny (model X.prog X.w) X.A (f (.int i t) (.int j u)) Q E s):
  OpR X f (rI0 λi j=> .bl (g i j)):=by
 intro pins s σ H x y v u Q I b a h;obtain⟨i,j,rfl,rfl,q⟩:=h;obtain⟨t,rfl⟩:=b;obtain⟨t',rfl⟩:=a;exact rule i j t t' s _ _ ⟨.bl (g i j),H,I,rfl,q⟩
def zfh(i j:Int):Prop:=0 < j/\j < 1073741824
def zeW(i j:Int):Prop:=0<=j/\j<=1000000/\i.natAbs < 2 ^ 64
def zed(i j:Int):Prop:=(-(2 ^ 64) < i/\i < 2 ^ 64)\/(-(2 ^ 64) < j/\j < 2 ^ 64)
theorem zed.ok{i j:Int}(h:zed i j):IntMulOk i j:=by
 rcases h with⟨h1,h2⟩ | ⟨h1,h2⟩
 ·exact .of_left (intBits_le_64 h1 h2)
 ·exact .of_right (intBits_le_64 h1 h2)
def kG:OpR X (binaryOp .Add) (rI0 λi j=> .int (i + j)):=zeU λ_ _ _ _ _ _ _ q=>add_int q
def z3a:OpR X (binaryOp .Sub) (rI0 λi j=> .int (i - j)):=zeU λ_ _ _ _ _ _ _ q=>sub_int q
def z6e:OpR X (binaryOp .Mult) (rI zed λi j=> .int (i * j)):=opI λ_ _ _ _ _ _ _ hc q=>mul_int q hc.ok
theorem yn:OpR X (binaryOp .FloorDiv) (rI zfh λi j=> .int (i / j)):=opI λi j _ _ _ _ _ hc q=>by
 have h1:(0:Int) < j:=hc.1;have h2:j < 1073741824:=hc.2;exact floordiv_int (by lia) (by rw [Int.fdiv_eq_ediv_of_nonneg i (by lia)];exact q) (.inl (PyProof.noPylong_small (by lia)))
theorem zZ:OpR X (binaryOp .Mod) (rI (λ_ j=>0 < j) λi j=> .int (i % j)):=opI λi j _ _ _ _ _ hc q=>by
 have h1:(0:Int) < j:=hc;exact mod_int' (by lia) (by rw [Int.fmod_eq_emod_of_nonneg i (by lia)];exact q)
def zdy:OpR X (binaryOp .Pow) (rI zeW λi j=> .int (i ^ j.toNat)):=opI λ_ _ _ _ _ _ _ hc q=>pow_int_small hc.1 hc.2.1 hc.2.2 q
theorem unI{f:Value->Sem Value}{g:Int->Int}
  (rule:∀(i:Int) (t:Tok) (s:Shared) (Q:Value->Shared->Prop) (E:Value->Shared->Prop),Q (.int (g i) s.toks) {s with toks:=s.toks + 1}->wpAny (model X.prog X.w) X.A (f (.int i t)) Q E s):
  UnR X f (rU λi=> .int (g i)):=by
 intro pins s σ H x v Q I a h;obtain⟨i,rfl,q⟩:=h;obtain⟨t,rfl⟩:=a;exact rule i t s _ _ ⟨.int (g i),H,I.tok _,⟨_,rfl⟩,q⟩
def yU:UnR X (unaryOp .USub) (rU λi=> .int (-i)):=unI λ_ _ _ _ _ q=>neg_int q
end
noncomputable def zeA:V->V->Bool
 | .non,.non=>true | .non,.int _=>true | .int _,.non=>true | .non,.bl _=>true | .bl _,.non=>true | .non,.str _=>true | .str _,.non=>true
 | .int _,.int _=>true | .bl _,.bl _=>true | .str _,.str _=>true | .byt _,.byt _=>true
 | .int _,.str _=>true | .str _,.int _=>true | .bl _,.str _=>true | .str _,.bl _=>true
 | _,_=>false
def rEq:R2:=λx y H Q=>zeA x y=true/\Q (.bl (decide (x=y))) H
def rNe:R2:=λx y H Q=>zeA x y=true/\Q (.bl (!decide (x=y))) H
theorem z8y{i j:Int}:decide (V.int i=V.int j)=(i == j):=by
 rw [w0k];simp
theorem zbz{i j:Bool}:decide (V.bl i=V.bl j)=(i == j):=by
 rw [w0k];simp
theorem z8S{i j:Str}:decide (V.str i=V.str j)=(i == j):=by
 rw [w0k];simp
theorem z8W{i j:Array UInt8}:decide (V.byt i=V.byt j)=(i.toList == j.toList):=by
 rw [w0k];cases i;cases j;simp
variable{op:CmpOp}
section
variable{a b:Expr}{tb tc:TE}{pos:Pos}
theorem jf{Q:VK}{k k':Bool}(I:Inv X pins σ H s)(q:Q (.bl k) H)(e:k=k'):EP X pins σ Q (.bool k') s:=by
 subst e;exact⟨.bl k,H,I,rfl,q⟩
theorem zM:OpR X (compareOp .Eq) rEq:=by
 intro pins s σ H x y v u Q I b a h;obtain⟨hs,q⟩:=h;cases x with
 | non=>
  cases b;cases y with
  | non=>cases a;exact PySem.EqNone.eq_none_none (jf I q (by simp))
  | bl j=>cases a;exact PySem.EqNone.eq_none_bool (jf I q (by simp))
  | int j=>obtain⟨t',rfl⟩:=a;exact PySem.EqNone.eq_none_int (jf I q (by simp))
  | str j=>obtain⟨t',rfl⟩:=a;exact PySem.EqNone.eq_none_str (jf I q (by simp))
  | _=>exact absurd (show false=true from hs) wT
 | bl i=>
  cases b;cases y with
  | non=>cases a;exact PySem.EqNone.eq_bool_none (jf I q (by simp))
  | bl j=>cases a;exact eq_bool (jf I q zbz)
  | str j=>obtain⟨t',rfl⟩:=a;exact PySem.EqMixed.eq_bool_str (jf I q (by simp))
  | _=>exact absurd (show false=true from hs) wT
 | int i=>
  obtain⟨t,rfl⟩:=b;cases y with
  | non=>cases a;exact PySem.EqNone.eq_int_none (jf I q (by simp))
  | int j=>obtain⟨t',rfl⟩:=a;exact eq_int (jf I q z8y)
  | str j=>obtain⟨t',rfl⟩:=a;exact PySem.EqMixed.eq_int_str (jf I q (by simp))
  | _=>exact absurd (show false=true from hs) wT
 | str i=>
  obtain⟨t,rfl⟩:=b;cases y with
  | non=>cases a;exact PySem.EqNone.eq_str_none (jf I q (by simp))
  | bl j=>cases a;exact PySem.EqMixed.eq_str_bool (jf I q (by simp))
  | int j=>obtain⟨t',rfl⟩:=a;exact PySem.EqMixed.eq_str_int (jf I q (by simp))
  | str j=>obtain⟨t',rfl⟩:=a;exact eq_str (jf I q z8S)
  | _=>exact absurd (show false=true from hs) wT
 | byt i=>
  obtain⟨t,rfl⟩:=b;cases y with
  | byt j=>obtain⟨t',rfl⟩:=a;exact PySem.W.eq_bytes (jf I q z8W)
  | _=>exact absurd (show false=true from hs) wT
 | _=>cases y <;> exact absurd (show false=true from hs) wT
theorem z05:OpR X (compareOp .NotEq) rNe:=by
 intro pins s σ H x y v u Q I b a h;obtain⟨hs,q⟩:=h;cases x with
 | non=>
  cases b;cases y with
  | non=>cases a;exact PySem.EqNone.ne_none_none (jf I q (by simp))
  | bl j=>cases a;exact PySem.EqNone.ne_none_bool (jf I q (by simp))
  | int j=>obtain⟨t',rfl⟩:=a;exact PySem.EqNone.ne_none_int (jf I q (by simp))
  | str j=>obtain⟨t',rfl⟩:=a;exact PySem.EqNone.ne_none_str (jf I q (by simp))
  | _=>exact absurd (show false=true from hs) wT
 | bl i=>
  cases b;cases y with
  | non=>cases a;exact PySem.EqNone.ne_bool_none (jf I q (by simp))
  | bl j=>cases a;exact ne_bool (jf I q (Qj not zbz))
  | str j=>obtain⟨t',rfl⟩:=a;exact PySem.EqMixed.ne_bool_str (jf I q (by simp))
  | _=>exact absurd (show false=true from hs) wT
 | int i=>
  obtain⟨t,rfl⟩:=b;cases y with
  | non=>cases a;exact PySem.EqNone.ne_int_none (jf I q (by simp))
  | int j=>obtain⟨t',rfl⟩:=a;exact ne_int (jf I q (Qj not z8y))
  | str j=>obtain⟨t',rfl⟩:=a;exact PySem.EqMixed.ne_int_str (jf I q (by simp))
  | _=>exact absurd (show false=true from hs) wT
 | str i=>
  obtain⟨t,rfl⟩:=b;cases y with
  | non=>cases a;exact PySem.EqNone.ne_str_none (jf I q (by simp))
  | bl j=>cases a;exact PySem.EqMixed.ne_str_bool (jf I q (by simp))
  | int j=>obtain⟨t',rfl⟩:=a;exact PySem.EqMixed.ne_str_int (jf I q (by simp))
  | str j=>obtain⟨t',rfl⟩:=a;exact ne_str (jf I q (Qj not z8S))
  | _=>exact absurd (show false=true from hs) wT
 | byt i=>
  obtain⟨t,rfl⟩:=b;cases y with
  | byt j=>obtain⟨t',rfl⟩:=a;exact PySem.W.ne_bytes (jf I q (Qj not z8W))
  | _=>exact absurd (show false=true from hs) wT
 | _=>cases y <;> exact absurd (show false=true from hs) wT
def z6U:OpR X (compareOp .Lt) (rI0 λi j=> .bl (decide (i < j))):=zdZ λ_ _ _ _ _ _ _ q=>lt_int q
def zd6:OpR X (compareOp .LtE) (rI0 λi j=> .bl (decide (i<=j))):=zdZ λ_ _ _ _ _ _ _ q=>le_int q
def z8a:OpR X (compareOp .Gt) (rI0 λi j=> .bl (decide (j < i))):=zdZ λ_ _ _ _ _ _ _ q=>gt_int q
theorem z8j:OpR X (compareOp .IsNot) (λx y H Q=>y= .non/\Q (.bl (!decide (x= .non))) H):=by
 intro pins s σ H x y v u Q I a b h;obtain⟨rfl,q⟩:=h;cases b;refine isnot_none_gen (jf I q ?_);cases x <;> first
  | (cases a;rfl)
  | (obtain⟨t,rfl⟩:=a;rfl)
theorem zaZ(b:Expr)(h:op≠ .In:=by decide)(h2:op≠ .NotIn:=by decide):behindInMarks op b=false:=by
 have a:(op == CmpOp.In)=false:=by cases op <;> first | rfl | exact absurd rfl h
 have c:(op == CmpOp.NotIn)=false:=by cases op <;> first | rfl | exact absurd rfl h2
 cases b <;> simp [behindInMarks,a,c]
theorem z3X{r:R2}(f:OpR X (compareOp op) r)(ha:PE X a ta)(c:PE X b tb)(hm:behindInMarks op b=false):PE X (.Compare a [op] [b] pos) (tOp r ta tb):=by
 intro pins s σ H Q I h;exact wpAny_Compare1 (zee ha c I h λv u s2 x y H2 i e d q=>f pins s2 σ H2 x y v u Q i e d q) hm
def zda(t:TE):TT:=λσ H Q=>t σ H λx H'=>∃k,x= .bl k/\Q k H'
theorem yb{r:R2}(o:OpR X (compareOp op) r)(ha:PE X a ta)(d:PE X b tb)(hm:behindInMarks op b=false):PT X (.Compare a [op] [b] pos) (zda (tOp r ta tb)):=by
 intro pins s σ H Q I h;refine wpAny_isTrue_Compare1 (thn (ha pins s σ H _ I h) λv s1 ⟨x,H1,j,r1,q1⟩=>thn (d pins s1 σ H1 _ j q1) λu s2 ⟨y,H2,p,r2,f⟩=>
  thn (o pins s2 σ H2 x y v u _ p r1 r2 f) λc t ⟨z,i,q,n,k,e,l⟩=> ?_) hm
 subst e;cases n;exact w0D ⟨i,q,l⟩
def zeI(K:W.Frag)(x:V)(H:Hp)(k:Bool):Prop:=
 match x with
 | .non=>k=false
 | .bl b=>k=b
 | .int i=>k=(i != 0)
 | .str y=>y.length<=sizeLine/\k=((y.length:Int) != 0)
 | .byt y=>y.size<=sizeLine/\k=((y.size:Int) != 0)
 | .ref p=>(∃xs,SqL K H p xs/\k= !xs.isEmpty)\/(∃xs,SqT K H p xs/\k= !xs.isEmpty)\/∃kvs,H p=some (.dK kvs)/\k= !kvs.isEmpty
 | _=>False
theorem z7w{kvs:List (κ×V)}{vs:List (κ×Value)}(r:KV kvs vs):(!vs.isEmpty)= !kvs.isEmpty:=by
 cases r <;> rfl
theorem z4q{its:List Value}(r:zQ xs its):(!its.toArray.isEmpty)= !xs.isEmpty:=by
 cases r <;> simp
theorem z2s:(sizeLine:Nat) < 2 ^ 63:=by rw [w04];decide
theorem zeh:zfj X (λx H Q=>∃k,zeI X.K x H k/\Q k H):=by
 intro pins s σ H x v Q I c h;obtain⟨k,e,q⟩:=h;have hl:=z2s;have hs:sizeLine=16777216:=w04;cases x with
 | non=>
  cases c;have a:k=false:=e;subst a;exact truthy_none ⟨H,I,q⟩
 | bl b=>
  cases c;have a:k=b:=e;subst a;exact w0D ⟨H,I,q⟩
 | int i=>
  obtain⟨t,rfl⟩:=c;have a:k=(i != 0):=e;subst a;exact PySem.P.truthy_int ⟨H,I,q⟩
 | str y=>
  obtain⟨t,rfl⟩:=c;obtain⟨d,a⟩:y.length<=sizeLine/\k=((y.length:Int) != 0):=e;subst a;exact PySem.P.truthy_str (by lia) ⟨H,I.tok _,q⟩
 | byt y=>
  obtain⟨t,rfl⟩:=c;obtain⟨d,a⟩:y.size<=sizeLine/\k=((y.size:Int) != 0):=e;subst a;exact PySem.W.truthy_bytes (by lia) ⟨H,I.tok _,q⟩
 | ref p=>
  cases c;have a:(∃xs,SqL X.K H p xs/\k= !xs.isEmpty)\/(∃xs,SqT X.K H p xs/\k= !xs.isEmpty)\/∃kvs,H p=some (.dK kvs)/\k= !kvs.isEmpty:=e
  rcases a with⟨xs,hx,a⟩ | ⟨xs,hx,a⟩ | ⟨kvs,hx,a⟩
  ·subst a;obtain⟨its,r,pl,hz⟩:=I.list hx;have hlen:=r.length;exact wpAny_truthy_list pl.isList (by simp only [wB];lia) ⟨H,I.tok _,by rw [z4q r];exact q⟩
  ·subst a;obtain⟨its,r,pl,hz⟩:=I.tuple hx;have hlen:=r.length;exact truthy_tuple pl (by simp only [wB];lia) ⟨H,I.tok _,by rw [z4q r];exact q⟩
  ·subst a;obtain⟨hz,f,vs,r,m⟩:kvs.length<=sizeLine/\(p == sysModules)=false/\∃vs,KV kvs vs/\s.heap.DictOf (jE X.prog X.w) p vs:=I.hok p _ hx
   have hlen:kvs.length=vs.length:=Paired.length r;exact wpAny_truthy_dict f m (by lia) ⟨H,I.tok _,by rw [z7w r];exact q⟩
 | _=>exact(show False from e).elim
theorem z2X(ha:PE X a ta)(b:∀whole,isTrue a X.env whole=(do let v<-whole;standAt a.pos;holding [v] (truthy v))):
  PT X a (λσ H Q=>ta σ H λx H'=>∃k,zeI X.K x H' k/\Q k H'):=by
 intro pins s σ H Q I h;exact isTrue_plain (thn (ha pins s σ H _ I h) λv s1 ⟨x,H1,c,r1,q1⟩=>zeh pins s1 σ H1 x v Q c r1 q1) (b _)
theorem zp:OpR X (binaryOp .Add) (λx y H Q=>∃i j,x= .str i/\y= .str j/\i.length + j.length<=sizeLine/\Q (.str (i ++ j)) H):=by
 intro pins s σ H x y v u Q I b a h;obtain⟨i,j,rfl,rfl,hz,q⟩:=h;obtain⟨t,rfl⟩:=b;obtain⟨t',rfl⟩:=a;exact add_str (λt' tk=>⟨.str (i ++ j),H,I.tok _,⟨_,rfl⟩,q⟩) hz
theorem vals1{x:V}(r:zQ [x] us):∃u,us= [u]/\RelV x u:=by
 cases r with
 | cons r1 r2=>cases r2;exact⟨_,rfl,r1⟩
theorem vals2{x:V}(r:zQ [x,y] us):∃u w',us= [u,w']/\RelV x u/\RelV y w':=by
 cases r with
 | cons r1 r2=>
  cases r2 with
  | cons a b=>cases b;exact⟨_,_,rfl,r1,a⟩
theorem z9r(hc:X.calm=true):kj X (.builtin "max") (λxs H Q=>∃i j,xs= [.int i,.int j]/\Q (.int (if j > i then j else i)) H):=by
 intro pins s σ H xs us Q I r h;obtain⟨i,j,rfl,q⟩:=h;obtain⟨u,w',rfl,⟨t,rfl⟩,⟨t',rfl⟩⟩:=vals2 r;refine max_two_ints (I.ok.hd hc) λh' tk k=>⟨_,H,I.kept k,?_,q⟩
 by_cases hj:j > i
 ·rw [wY hj,wY hj];exact⟨_,rfl⟩
 ·rw [wU hj,wU hj];exact⟨_,rfl⟩
theorem z5i(hc:X.calm=true):kj X (.builtin "min") (λxs H Q=>∃i j,xs= [.int i,.int j]/\Q (.int (if j < i then j else i)) H):=by
 intro pins s σ H xs us Q I r h;obtain⟨i,j,rfl,q⟩:=h;obtain⟨u,w',rfl,⟨t,rfl⟩,⟨t',rfl⟩⟩:=vals2 r;refine min_two_ints (I.ok.hd hc) λh' tk k=>⟨_,H,I.kept k,?_,q⟩
 by_cases hj:j < i
 ·rw [wY hj,wY hj];exact⟨_,rfl⟩
 ·rw [wU hj,wU hj];exact⟨_,rfl⟩
theorem z9I:kj X (.type "int") (λxs H Q=>(∃i,xs= [.int i]/\Q (.int i) H)\/∃k,xs= [.bl k]/\Q (.int (if k then 1 else 0)) H):=by
 intro pins s σ H xs us Q I r h;rcases h with⟨i,rfl,q⟩ | ⟨k,rfl,q⟩
 ·obtain⟨u,rfl,t,rfl⟩:=vals1 r;exact call_int_int ⟨.int i,H,I,⟨_,rfl⟩,q⟩
 ·obtain⟨u,rfl,r1⟩:=vals1 r;cases r1;exact call_int_bool ⟨.int (if k then 1 else 0),H,I.tok _,⟨_,rfl⟩,q⟩
theorem z64:kj X (.type "str") (λxs H Q=>∃i,xs= [.int i]/\i.natAbs.log2 < 1920/\Q (.str (toString i)) H):=by
 intro pins s σ H xs us Q I r h;obtain⟨i,rfl,hz,q⟩:=h;obtain⟨u,rfl,t,rfl⟩:=vals1 r;exact PySem.P.str_of_int hz ⟨.str _,H,I.tok _,⟨_,rfl⟩,q⟩
end
structure ObjM(h:Heap)(x dx C:Addr)(mA:Str->Option Value):Prop where
 obj:h.get? x=some (PySem.W.instObj C dx)
 ns:h.Ns1 dx mA
 ne:dx≠x
variable{dx:Addr}{mA:Str->Option Value}
theorem z9a(n:h.Ns1 dx mA):∃od,h.get? dx=some od/\∀name,PySem.W.lookIn name od=some (mA name):=by
 obtain⟨o,es,ep,d,hd,f,_,hm⟩:=n;refine⟨o,d,λname=> ?_⟩;have e:=hm name;unfold nsFind findBy at e;rw [<-Array.find?_toList]at e;unfold PySem.W.lookIn;rw [hd];dsimp only;split
 ·rename_i y q;rw [q]at e;exact Qj some e
 ·rename_i q;rw [q]at e;have a:es.toList.any (·.refKey)=false:=by
   rw [List.any_eq_false];intro y b;obtain⟨z,t,c⟩:=f y (Array.mem_toList_iff.mp b);simp [DictEntry.refKey,c]
  have a':¬es.toList.any (·.refKey)=true:=by rw [a];exact wT
  rw [wU a'];exact Qj some e
variable{C:Addr}
def ObjM.look{x:Addr}(I:ObjM h x dx C mA):∃od,PySem.W.InstAt h x (PySem.W.instObj C dx) C (some od)/\∀name,PySem.W.lookIn name od=some (mA name):=
 let ⟨od,ho,hl⟩:=z9a I.ns
 ⟨od,⟨I.obj,rfl,rfl,ho⟩,hl⟩
variable{prog:Program}{kw:List (Str×Value)}
section
variable{K:W.Frag}{x f:Addr}{name:Str}{v:Value}
theorem get_map{expr:Bool}(X:K.In s.heap)(I:ObjM s.heap x dx C mA)(b:PySem.W.plainGet K C name=true)(a:PySem.W.hasDictIn K C=true)
  (ha:PySem.W.findIn K (.ref C) name=some none) (d:mA name=some v) (c:PySem.W.handedIn v=true) (h:Q v {s with toks:=s.toks + 1}):
  wpAny (model prog w) A (getAttr (.ref x) name expr) Q E s:=by
 obtain⟨od,J,hl⟩:=I.look;exact PySem.W.get_value X J (PySem.W.plainGet_of b).1 (PySem.W.findObj_own a ha rfl (by rw [hl,d])) c h
theorem za1{pl:Sem Bool}{Q:Value×List Value->Shared->Prop}(X:K.In s.heap)(I:ObjM s.heap x dx C mA)(a:PySem.W.plainGet K C name=true)
  (b:PySem.W.findIn K (.ref C) name=some (some (.ref f))) (ht:PySem.W.isFn K (.ref f)=true) (c:mA name=none) (h:Q (.ref f,[.ref x]) s):
  wpAny (model prog w) A (getMethod (.ref x) name pl) Q E s:=by
 obtain⟨od,J,hl⟩:=I.look;exact PySem.W.method_fn X J (PySem.W.plainGet_of a).1 (PySem.W.plainGet_of a).2 b (Qt.mp ht) (by show(PySem.W.lookIn name od).map (·.isSome)=some false;rw [hl,c];rfl) h
theorem zcG{ns:List Str}{Q:Unit->Shared->Prop}(X:K.In s.heap)(I:ObjM s.heap x dx C mA)
  (hs:PySem.W.findIn K (.ref C) "__setattr__"=some (some (.builtin "object.__setattr__"))) (hp:PySem.W.plainOver K C=true) (ht:PySem.W.takerIn K C name=some none) (i:PySem.W.hasDictIn K C=true)
  (e:PySem.Within mA ns) (hsz:ns.length<=sizeLine)
  (h:∀h',ObjM h' x dx C (λy=>if y=name then some v else mA y)->Heap.SameBut dx s.heap h'->Q () {s with heap:=h',toks:=s.toks + 2}):
  wpAny (model prog w) A (setAttr (.ref x) name v) Q E s:=by
 obtain⟨od,J,hl⟩:=I.look;refine PySem.W.set_plain X J hs (PySem.W.osa_open (s:={s with toks:=s.toks + 1}) (r:=none) X J hp ht λb=> ?_);obtain⟨cd,hc,j⟩:=PySem.W.any_some i;have o:s.heap.get? x=some ⟨.ref C,some dx,.plain,#[]⟩:=I.obj;refine wC (qd (wC (wC (wpAny_loadPart o (wC (PySem.W.Looks.here (s:={s with toks:=s.toks + 1}) (PySem.W.looks_clsIn X hc) ?_))))));rw [j];refine qd (a:=some dx) (wC (qd (wC ?_)));refine wpAny_nsSet1 (s:={s with toks:=s.toks + 1}) I.ns λh' c d=> ?_
 obtain⟨q,t,p,l,n,f⟩:=c.count (PySem.Within.cons name v e);refine wC (wpAny_lookBehind l (by rw [n];exact pastItsLine_dict (wW f (by rw [wP];lia))) ?_);exact qd (h _ ⟨(d.2 _ (w1p I.ne)).trans I.obj,c,I.ne⟩ d)
theorem zaN{R:Result->Shared->Prop}{vs:List Value}(X:K.In s.heap)(hm:PySem.W.makesIn K C=true)
  (hi:PySem.W.findIn K (.ref C) "__init__"=some (some (.ref f))) (a:PySem.W.typeIn K (.ref f)=some (.type "function"))
  (h:codeAny (model prog w) (A.under (.builtin "type.__call__" ⟨.ref C :: vs,kw⟩)) (.call (.ref f) ⟨.ref (s.heap.objs.size + 1) :: vs,kw⟩) (PySem.W.InitBack (s.heap.objs.size + 1) R)
   {s with heap:=(s.heap.push PySem.W.emptyDict).push (PySem.W.instObj C s.heap.objs.size)}):
  codeAny (model prog w) A (.call (.ref C) ⟨vs,kw⟩) R s:=by
 obtain⟨b,g,d,t,os⟩:=s;exact PySem.W.make_core (PySem.W.makes_of X hm) (PySem.W.looks_findIn X hi) (λself=>PySem.W.bind_fn X self a) (.inl rfl) h
end
noncomputable def yK(f:Str)(v:V):List (Str×V)->List (Str×V)
 | []=> [(f,v)]
 | (g,x) :: r=>if g=f then(g,v) :: r else(g,x) :: yK f v r
theorem z3D(f g:Str)(v:V):∀fs:List (Str×V),(yK f v fs).lookup g=if g=f then some v else fs.lookup g
 | []=>by
  show List.lookup g [(f,v)]=_
  by_cases h:g=f
  ·have a:(g == f)=true:=Qt.mpr h;simp only [List.lookup,a,wY h]
  ·have a:(g == f)=false:=w0i.mpr h;simp only [List.lookup,a,wU h]
 | (k,x) :: r=>by
  have b:=z3D f g v r;rw [show yK f v ((k,x) :: r)=(if k=f then(k,v) :: r else(k,x) :: yK f v r)from rfl];by_cases hk:k=f
  ·rw [wY hk];by_cases h:g=k
   ·have a:(g == k)=true:=Qt.mpr h;simp only [List.lookup,a,wY (h.trans hk)]
   ·have a:(g == k)=false:=w0i.mpr h;simp only [List.lookup,a,wU (λe:g=f=>h (e.trans hk.symm))]
  ·rw [wU hk];by_cases h:g=k
   ·have a:(g == k)=true:=Qt.mpr h;simp only [List.lookup,a,wU (λe:g=f=>hk (h.symm.trans e))]
   ·have a:(g == k)=false:=w0i.mpr h;simp only [List.lookup,a];exact b
theorem z3f(f:Str)(v:V):∀fs:List (Str×V),f∈(yK f v fs).map (·.1)/\∀g,g∈fs.map (·.1)->g∈(yK f v fs).map (·.1)
 | []=>⟨by simp [yK],λg h=>by simp at h⟩
 | (k,x) :: r=>by
  obtain⟨b,a⟩:=z3f f v r;rw [show yK f v ((k,x) :: r)=(if k=f then(k,v) :: r else(k,x) :: yK f v r)from rfl];by_cases hk:k=f
  ·rw [wY hk];subst hk;exact⟨by simp,λg h=>by simpa using h⟩
  ·rw [wU hk];refine⟨?_,λg h=> ?_⟩
   ·rw [qK];exact wV _ b
   ·rw [qK]at h ⊢;rcases wH.mp h with e | e
    ·exact wH.mpr (.inl e)
    ·exact wV _ (a g e)
theorem z3A(f:Str)(v:V):∀fs:List (Str×V),(yK f v fs).length<=fs.length + 1
 | []=>by simp [yK]
 | (k,x) :: r=>by
  have a:=z3A f v r;rw [show yK f v ((k,x) :: r)=(if k=f then(k,v) :: r else(k,x) :: yK f v r)from rfl];by_cases hk:k=f
  ·rw [wY hk,wP,wP];lia
  ·rw [wU hk,wP,wP];lia
theorem z2g.some_of{v:V}{o:Option Value}(r:z2g (some v) o):∃u,o=some u/\RelV v u:=by
 cases o with
 | none=>exact(show False from r).elim
 | some u=>exact⟨u,rfl,r⟩
theorem z2g.none_of{o:Option Value}(r:z2g none o):o=none:=by
 cases o with
 | none=>rfl
 | some u=>exact(show False from r).elim
theorem z9g{v:V}(r:RelV v u):PySem.W.handedIn u=true:=by
 cases v with
 | non=>cases (show u=Value.none from r);rfl
 | bl b=>cases (show u=Value.bool b from r);rfl
 | int i=>obtain⟨t,e⟩:=(show∃t,u=Value.int i t from r);cases e;rfl
 | str x=>obtain⟨t,e⟩:=(show∃t,u=Value.str x t from r);cases e;rfl
 | byt b=>obtain⟨t,e⟩:=(show∃t,u=Value.bytes b t from r);cases e;rfl
 | flt b=>obtain⟨t,e⟩:=(show∃t,u=Value.float b t from r);cases e;rfl
 | ref a=>cases (show u=Value.ref a from r);rfl
 | ty n=>cases (show u=Value.type n from r);rfl
section
variable{fs h9:List (Str×V)}
theorem z3V(hok:HOk P w H h)(e:H a=some (.ins C dx fs)):∃mA,ObjM h a dx C mA/\(∀f,z2g (fs.lookup f) (mA f))/\PySem.Within mA (fs.map (·.1))/\fs.length<=1000/\H dx=some (.own a):=by
 obtain⟨d,z,ne,b,mA,n,r,q⟩:=(show jm P w H h a (.ins C dx fs)from hok a _ e);exact⟨mA,⟨b,n,ne⟩,r,q,z,d⟩
end
structure Cls(K:W.Frag)(C:Addr):Prop where
 pg:PySem.W.plainGet K C Str.empty=true
 hd:PySem.W.hasDictIn K C=true
 po:PySem.W.plainOver K C=true
 sa:PySem.W.findIn K (.ref C) "__setattr__"=some (some (.builtin "object.__setattr__"))
theorem Cls.get{K:W.Frag}{C:Addr}(c:Cls K C)(f:Str):PySem.W.plainGet K C f=true:=c.pg
def NoAttr(K:W.Frag)(C:Addr)(f:Str):Prop:=PySem.W.findIn K (.ref C) f=some none
theorem NoAttr.taker{f:Str}(n:NoAttr K C f):PySem.W.takerIn K C f=some none:=by
 unfold PySem.W.takerIn;rw [show PySem.W.findIn K (.ref C) f=some none from n]
 rfl
structure Con(K:W.Frag)(C:Addr)(f:Str)(v:V)(u:Value):Prop where
 at_:PySem.W.findIn K (.ref C) f=some (some u)
 rel:RelV v u
 get:PySem.W.specialIn K u "__get__"=some none
 cp:PySem.W.copiedNames.contains f=false
structure Meth(K:W.Frag)(C:Addr)(m:Str)(f:Addr):Prop where
 at_:PySem.W.findIn K (.ref C) m=some (some (.ref f))
 fn:PySem.W.isFn K (.ref f)=true
 kp:PySem.W.keepIn K (.ref f)=true
section
variable{σ:St}{fs:List (Str×V)}{f:Str}{v:V}
theorem z7M{b:Bool}(I:Inv X pins σ H s)(e:H a=some (.ins C dx fs))(c:Cls X.K C)(n:NoAttr X.K C f)(l:fs.lookup f=some v)
  (h:∀u s',Inv X pins σ H s'->RelV v u->Q u s'):wpAny (model X.prog X.w) A (getAttr (.ref a) f b) Q E s:=by
 obtain⟨mA,O,r,_,_,_⟩:=z3V I.hok e;obtain⟨u,i,d⟩:=z2g.some_of (v:=v) (o:=mA f) (by rw [<-l];exact r f);exact get_map I.kIn O (c.get f) c.hd n i (z9g d) (h u _ (I.tok _) d)
theorem z2D{m:Str}{g:Addr}{pl:Sem Bool}{Q:Value×List Value->Shared->Prop}(I:Inv X pins σ H s)(e:H a=some (.ins C dx fs))(c:Cls X.K C)(k:Meth X.K C m g)(l:fs.lookup m=none)
  (h:Q (.ref g,[.ref a]) s):wpAny (model X.prog X.w) A (getMethod (.ref a) m pl) Q E s:=by
 obtain⟨mA,O,r,_,_,_⟩:=z3V I.hok e;have hn:mA m=none:=z2g.none_of (by rw [<-l];exact r m);exact za1 I.kIn O (c.get m) k.at_ k.fn hn h
theorem z80{Q:Unit->Shared->Prop}(I:Inv X pins σ H s)(e:H a=some (.ins C dx fs))(c:Cls X.K C)(n:NoAttr X.K C f)(hl:fs.length < 1000)(p:RelV y u)
  (h:∀s',Inv X pins σ (upd H a (.ins C dx (yK f y fs))) s'->Q () s'):wpAny (model X.prog X.w) A (setAttr (.ref a) f u) Q E s:=by
 obtain⟨mA,O,r,wi,_,i⟩:=z3V I.hok e;have hz:(fs.map (·.1)).length<=sizeLine:=by rw [w9,w04];lia
 refine zcG I.kIn O c.sa c.po n.taker c.hd wi hz λh' d t=>h _ ?_
 have hd:∃o,h'.get? dx=some o:=let ⟨o,_,_,e',_⟩:=d.ns;⟨o,e'⟩
 refine I.write (x:=a) (e:=dx) (by rw [e];exact w0s) (.inr i) (λb q j z=>(t.2 b j).trans z) hd ?_;refine⟨by rw [zn O.ne];exact i,?_,O.ne,d.obj,_,d.ns,λg=> ?_,λg l=> ?_⟩
 ·have:=z3A f y fs;lia
 ·show z2g ((yK f y fs).lookup g) (if g=f then some u else mA g)
  rw [z3D];by_cases q:g=f
  ·rw [wY q,wY q];exact p
  ·rw [wU q,wU q];exact r g
 ·by_cases q:g=f
  ·rw [q];exact(z3f f y fs).1
  ·refine(z3f f y fs).2 g (wi g λz=>l ?_)
   show(if g=f then some u else mA g)=none
   rw [wU q];exact z
theorem Inv.made(I:Inv X pins σ H s):Inv X pins σ (upd (upd H s.heap.objs.size (.own (s.heap.objs.size + 1))) (s.heap.objs.size + 1) (.ins C s.heap.objs.size []))
  {s with heap:=(s.heap.push PySem.W.emptyDict).push (PySem.W.instObj C s.heap.objs.size)}:=by
 have c:(s.heap.push PySem.W.emptyDict).get? s.heap.objs.size=some PySem.W.emptyDict:=qi s.heap rfl;have h:((s.heap.push PySem.W.emptyDict).push (PySem.W.instObj C s.heap.objs.size)).get? (s.heap.objs.size + 1)=some (PySem.W.instObj C s.heap.objs.size):=by
  have:=qi (s.heap.push PySem.W.emptyDict) (o:=PySem.W.instObj C s.heap.objs.size) rfl
  rwa [Qq]at this
 have f:(s.heap.push PySem.W.emptyDict).Ns s.heap.objs.size (λ_=>none):=⟨PySem.W.emptyDict,#[],_,c,rfl,(λe d=>absurd d (by simp)),λ_=>rfl⟩;have i:=I.laid (a:=s.heap.objs.size) (o:= .own (s.heap.objs.size + 1)) (h':=s.heap.push PySem.W.emptyDict) (t':=s.toks) (λb u q=>wo _ q) (wu _) ⟨_,c⟩;refine i.laid (a:=s.heap.objs.size + 1) (o:= .ins C s.heap.objs.size []) (t':=s.toks) (λb u q=>wo _ q) (Nat.le_of_eq (Qq _ _)) ?_;have ne:s.heap.objs.size≠s.heap.objs.size + 1:=qe (w05 _);refine⟨by rw [zn ne,zl],Q6 _,ne,h,λ_=>none,(Heap.Ns1.of_empty f).at λo q=>wo _ q,λ_=>w0s,λy j=>absurd rfl j⟩
theorem zc8{env:Env}{pos:Pos}(a:attributeBase e f env (eval e env)=eval e env)
  (h:wpAny (model prog w) A (eval e env) (λo b=>wpAny (model prog w) A (getAttr o f true) Q E b) E s):wpAny (model prog w) A (eval (.Attribute e f pos) env) Q E s:=
 Attribute_any_ h (by rw [arm_eval_Attribute,a])
end
def zf1(K:W.Frag)(ta:TE)(f:Str):TE:=λσ H Q=>ta σ H λx H1=>∃a C dx fs v,x= .ref a/\H1 a=some (.ins C dx fs)/\Cls K C/\NoAttr K C f/\fs.lookup f=some v/\Q v H1
def zdn(K:W.Frag)(ta tv:TE)(f:Str):TS:=λD σ H=>tv σ H λy H1=>ta σ H1 λx H2=>∃a C dx fs,x= .ref a/\H2 a=some (.ins C dx fs)/\Cls K C/\NoAttr K C f/\fs.length < 1000/\
 D.nx σ (upd H2 a (.ins C dx (yK f y fs)))
section
variable{o value:Expr}{f:Str}{pos pos' nJ:Pos}{tv:TE}
theorem zE(p:PE X e ta)(b:attributeBase e f X.env (eval e X.env)=eval e X.env):PE X (.Attribute e f pos) (zf1 X.K ta f):=by
 intro pins s σ H Q I h;refine zc8 b (thn (p pins s σ H _ I h) ?_);rintro u s1 ⟨x,H1,d,i,a,C,dx,fs,v,ex,r,c,n,l,q⟩;subst ex;obtain rfl:u=Value.ref a:=i;exact z7M d r c n l λt s2 o j=>⟨v,H1,o,j,q⟩
theorem z0y(ha:PE X o ta)(d:PE X value tv)(hs:swapsWith value (some (.Attribute o f pos')) pos.line X.env=pure false):PS X (.Assign [.Attribute o f pos'] value pos) (zdn X.K ta tv f):=by
 intro pins s σ H D I h;refine plainObj_wpAny_Assign_Attribute (thn (d pins s σ H _ I h) ?_) hs;rintro u s1 ⟨y,H1,e,j,q⟩;refine thn (ha pins s1 σ H1 _ e q) ?_;rintro i s2 ⟨x,H2,r,p,a,C,dx,fs,ex,t,c,n,l,b⟩;subst ex;obtain rfl:i=Value.ref a:=p;exact z80 r t c n l j λz w=>⟨σ,_,w,b⟩
end
section
variable{σ:St}{c:Value}{b:Bool}
inductive TyOf (K:W.Frag) (H:Hp):V->Value->Prop where
 | non:TyOf K H .non (.type "NoneType")
 | bl (x:Bool):TyOf K H (.bl x) (.type "bool")
 | int (i:Int):TyOf K H (.int i) (.type "int")
 | str (x:Str):TyOf K H (.str x) (.type "str")
 | flt (x:UInt64):TyOf K H (.flt x) (.type "float")
 | lst {a:Addr} {xs:List V} (e:H a=some (.lst xs)):TyOf K H (.ref a) (.type "list")
 | frz {a:Addr} {o:Obj} {xs:List V} (e:H a=some (.frz o (.lst xs))):TyOf K H (.ref a) (.type "list")
 | tup {a:Addr} {xs:List V} (e:H a=some (.tup xs)):TyOf K H (.ref a) (.type "tuple")
 | dK {a:Addr} {kvs:List (Key×V)} (e:H a=some (.dK kvs)):TyOf K H (.ref a) (.type "dict")
 | dT {a:Addr} {kvs:List (List Key×V)} (e:H a=some (.dT kvs)):TyOf K H (.ref a) (.type "dict")
 | ins {a C dx:Addr} {fs:List (Str×V)} (e:H a=some (.ins C dx fs)) (cl:Cls K C) (ha:PySem.W.findIn K (.ref C) "__class__"=some (some (.builtin "object.__class__")))
   (hn:PySem.W.specialIn K (.builtin "object.__class__") "__get__"=some (some (.builtin "getset_descriptor.__get__"))) (rS:PySem.W.takesIn K (.builtin "object.__class__")=some true)
   (hm:PySem.W.mroIn K C (.type "object")=some true):TyOf K H (.ref a) (.ref C)
theorem z9s{x:V}{t:Value}(I:Inv X pins σ H s)(d:RelV x u)(ty:TyOf X.K H x t)(e:PySem.W.kitOne X.K t c=some b)(h:∀tk,Q (.bool b) {s with toks:=tk}):
  wpAny (model X.prog X.w) A (call (.builtin "isinstance") [u,c]) Q E s:=by
 cases ty with
 | non=>cases (show u=Value.none from d);exact QB PySem.W.kitx_none I.kIn w0s e (λz=>nomatch z) h
 | bl y=>cases (show u=Value.bool y from d);exact QB PySem.W.kitx_bool I.kIn w0s e (λz=>nomatch z) h
 | int i=>obtain⟨t,q⟩:=(show∃t,u=Value.int i t from d);cases q;exact QB PySem.W.kitx_int I.kIn w0s e (λz=>nomatch z) h
 | str y=>obtain⟨t,q⟩:=(show∃t,u=Value.str y t from d);cases q;exact QB PySem.W.kitx_str I.kIn w0s e (λz=>nomatch z) h
 | flt y=>obtain⟨t,q⟩:=(show∃t,u=Value.float y t from d);cases q;exact QB PySem.W.kitx_float I.kIn w0s e (λz=>nomatch z) h
 | @lst a xs f=>
  cases (show u=Value.ref a from d);obtain⟨_,_,n,_,h1⟩:=(show jm X.prog X.w H s.heap a (.lst xs)from I.hok a _ f);exact QB PySem.W.kitx_list I.kIn ⟨_,h1,rfl⟩ e (λz=>nomatch z) h
 | @frz a j xs f=>
  cases (show u=Value.ref a from d);obtain⟨_,_,_,n,_,h1⟩:=(show jm X.prog X.w H s.heap a (.frz j (.lst xs))from I.hok a _ f);exact QB PySem.W.kitx_list I.kIn ⟨_,h1,rfl⟩ e (λz=>nomatch z) h
 | @tup a xs f=>
  cases (show u=Value.ref a from d);obtain⟨_,_,_,p⟩:=(show jm X.prog X.w H s.heap a (.tup xs)from I.hok a _ f);obtain⟨o,h1,h2,_⟩:=p;exact QB PySem.W.kitx_tuple I.kIn ⟨o,h1,h2⟩ e (λz=>nomatch z) h
 | @dK a kvs f=>
  cases (show u=Value.ref a from d);obtain⟨_,_,vs,_,p⟩:=(show jm X.prog X.w H s.heap a (.dK kvs)from I.hok a _ f);obtain⟨o,es,ep,h1,h2,_⟩:=p;exact QB PySem.W.kitx_dict I.kIn ⟨o,h1,h2.1⟩ e (λz=>nomatch z) h
 | @dT a kvs f=>
  cases (show u=Value.ref a from d);obtain⟨_,_,xs,_,o,es,ep,h1,h2,_⟩:=(show jm X.prog X.w H s.heap a (.dT kvs)from I.hok a _ f);exact QB PySem.W.kitx_dict I.kIn ⟨o,h1,h2.1⟩ e (λz=>nomatch z) h
 | @ins a C dx fs f cl ha hn rS hm=>
  cases (show u=Value.ref a from d);obtain⟨mA,O,_⟩:=z3V I.hok f;obtain⟨od,J,_⟩:=O.look;exact QB (PySem.W.kitx_own (cl.get _) cl.hd ha hn rS hm) I.kIn J e (λz=>nomatch z) h
end
structure Room(k:Nat)(A:Around):Prop where
 hd:A.handled=none
 dp:A.depth + 3 * k + 5 < recursionLimit
 un:A.units + 16 * k + 200 < cLine
theorem Room.mono{j k:Nat}(r:Room k A)(h:j<=k):Room j A:=⟨r.hd,by have:=r.dp;lia,by have:=r.un;lia⟩
theorem Room.deeper{k:Nat}(r:Room (k + 1) A)(env:Env):Room k (A.deeper env):=
 ⟨r.hd,by have:=r.dp;show A.depth + 1 + 3 * k + 5 < _;lia,by have:=r.un;show A.units + 3 + 16 * k + 200 < _;lia⟩
theorem z7s:(A.under (.builtin "type.__call__" ⟨.ref C :: us,kw⟩)).depth=A.depth + 1:=by
 first | rfl | simp [Around.under,Code.weight,Code.isCreation,Code.isGuard,Code.isCaller,Code.frames,Code.isFrame,guardIds]
theorem z7r:(A.under (.builtin "type.__call__" ⟨.ref C :: us,kw⟩)).units=A.units + 1:=by
 first | rfl | simp [Around.under,Code.cUnits,Code.frames,Code.isFrame]
theorem Room.make{k:Nat}(r:Room (k + 1) A)(C:Addr)(us:List Value)(kw:List (Str×Value)):Room k (A.under (.builtin "type.__call__" ⟨.ref C :: us,kw⟩)):=
 ⟨r.hd,by have:=r.dp;rw [z7s];lia,by have:=r.un;rw [z7r];lia⟩
theorem Room.depth{k:Nat}(r:Room k A):A.depth < recursionLimit:=by have:=r.dp;lia
theorem Room.units{k:Nat}(r:Room k A):A.units + 64 < cLine:=by have:=r.un;lia
def zdc:TA:=λ_ H Q=>Q [] H
def z1N(ta:TE)(tr:TA):TA:=λσ H Q=>ta σ H λx H1=>tr σ H1 λxs H2=>Q (x :: xs) H2
variable{t:TA}
section
variable{pos:Pos}
def zb:PA X [] zdc:=λ_ _ _ _ H Q I h=>w14 ⟨[],H,I,.nil,h⟩
theorem zO(ha:PE X e te)(hr:PA X es t)(hs:starEach (e :: es) X.env=(false,eval e X.env) :: starEach es X.env:=by rfl):PA X (e :: es) (z1N te t):=by
 intro pos pins s σ H Q I h;rw [hs]
 show wpAny _ _ (spliced ((false,eval e X.env) :: backTo pos (starEach es X.env))) _ _ s
 refine w01 (thn (ha pins s σ H _ I h) ?_);rintro u s1 ⟨x,H1,b,r1,q1⟩;exact thn (hr pos pins s1 σ H1 _ b q1) λus s2 ⟨xs,H2,c,r2,a⟩=>⟨x :: xs,H2,c,.cons r1 r2,a⟩
def zfv(t:TA):TE:=λσ H Q=>t σ H λxs H1=>xs.length<=sizeLine/\∀p,H1 p=none->Q (.ref p) (upd H1 p (.tup xs))
def zfz(t:TA):TE:=λσ H Q=>t σ H λxs H1=>xs.length<=sizeLine/\∀p,H1 p=none->Q (.ref p) (upd H1 p (.lst xs))
theorem zB{x1}(h:PA X es t):PE X (.Tuple es x1 pos) (zfv t):=by
 intro pins s σ H Q I hq;refine wpAny_Tuple_spliced (thn (h pos pins s σ H _ I hq) ?_);rintro us s1 ⟨xs,H1,a,r,z,q⟩;refine⟨by rw [<-r.length];exact z,?_⟩;have c:H1 s1.heap.objs.size=none:=a.hok.fresh (wu _);refine⟨.ref s1.heap.objs.size,upd H1 s1.heap.objs.size (.tup xs),a.laid (t':=s1.toks) (λb u e=>wo _ e) (wu _) ?_,rfl,q _ c⟩;exact⟨z,us,r,⟨_,qi _ rfl,rfl,_,rfl⟩⟩
theorem zw(h:PA X es t):PE X (.List es pos) (zfz t):=by
 intro pins s σ H Q I hq;refine wpAny_List_spliced (thn (h pos pins s σ H _ I hq) ?_);rintro us s1 ⟨xs,H1,a,r,z,q⟩;refine⟨by rw [<-r.length];exact z,?_⟩;have c:H1 s1.heap.objs.size=none:=a.hok.fresh (wu _);refine⟨.ref s1.heap.objs.size,upd H1 s1.heap.objs.size (.lst xs),a.laid (t':=s1.toks) (λb u e=>wo _ e) (wu _) ?_,rfl,q _ c⟩;exact⟨z,us,0,r,qi _ rfl⟩
end
abbrev Sp:=List V->Hp->VK->XK->Prop
abbrev CXT:=List Env->Hp->Shared->XK->Value->Shared->Prop
structure Env0(P:Program)(w:World)(K:W.Frag)(mg:Str->Option Value)(base:Heap)(A:Around)(outer:List Env)(s:Shared)(H:Hp):Prop where
 frames:A.frames=some outer
 mod:Mod K mg base
 bs:∀b o,base.get? b=some o->s.heap.get? b=some o/\H b=none
 bsz:base.objs.size<=s.heap.objs.size
 funs:s.heap.FunFrames base outer
 frf:∀b∈frs outer,H b=none
 hok:HOk P w H s.heap
 bare:AllBare s.gens
def CE(outer:List Env)(P:Program)(w:World)(H:Hp)(s:Shared)(Q:VK)(u:Value)(s':Shared):Prop:=
 ∃v H',s'.os=s.os/\AllBare s'.gens/\Un (frs outer) [] H H' s.heap s'.heap/\HOk P w H' s'.heap/\RelV v u/\Q v H'
def CR(CX:CXT)(outer:List Env)(P:Program)(w:World)(H:Hp)(s:Shared)(Q:VK)(E:XK)(r:Result)(s':Shared):Prop:=
 match r with
 | .ok (.ret u)=>CE outer P w H s Q u s'
 | .ok _=>False
 | .error e=>CX outer H s E e s'
structure FnOk(P:Program)(w:World)(K:W.Frag)(mg:Str->Option Value)(base:Heap)(CX:CXT)(k:Nat)(f:Addr)(fd:FuncData)(ps:List Str)(sp:Sp):Prop where
 len:∀vs H Q E,sp vs H Q E->vs.length=ps.length
 run:∀(A:Around) (outer:List Env) (s:Shared) (H:Hp) (args:Args) (us:List Value) (vs:List V) (Q:VK) (E:XK),Room k A->Env0 P w K mg base A outer s H->BindsTo s fd args (ps.zip us)->zQ vs us->sp vs H Q E->
  codeAny (model P w) A (.call (.ref f) args) (CR CX outer P w H s Q E) s
variable{mg:Str->Option Value}{base:Heap}{outer:List Env}
theorem Env0.make(e:Env0 P w K mg base A outer s H)(C:Addr)(us:List Value)(kw:List (Str×Value)):
  Env0 P w K mg base (A.under (.builtin "type.__call__" ⟨.ref C :: us,kw⟩)) outer s H:=⟨by first | exact e.frames | (simpa [Around.under,Code.envs,Code.isFrame,pushEnvs]using e.frames),e.mod,e.bs,e.bsz,e.funs,e.frf,e.hok,e.bare⟩
section
variable{σ:St}
def Inv.env0(I:Inv X pins σ H s):Env0 X.prog X.w X.K X.mg X.base X.A X.stack s H:=
 ⟨I.ok.frames,I.ok.mod,I.bs,wW I.ok.bsz I.sz,I.stack,I.stkFree,I.hok,I.bare⟩
theorem Inv.after{Q:VK}(I:Inv X pins σ H s)(h:CE X.stack X.prog X.w H s Q u s'):EP X pins σ Q u s':=by
 obtain⟨v,H',os,bare,un,hok,r,q⟩:=h;obtain⟨c,g,d,t,a⟩:=s';obtain rfl:a=s.os:=os;exact⟨v,H',I.call (h':=c) (g':=g) (d':=d) (t':=t) (ch:= []) un hok bare (λb z=>absurd z (by simp)),r,q⟩
end
def zag(sp:Sp)(bq:List V)(E:XK)(t:TA):TE:=λσ H Q=>t σ H λvs H1=>sp (vs ++ bq) H1 Q E
def z8u(C:Addr)(m:Str)(sp:Sp)(bq:List V)(E:XK)(ta:TE)(t:TA):TE:=λσ H Q=>ta σ H λx H1=>∃a dx fs,x= .ref a/\H1 a=some (.ins C dx fs)/\fs.lookup m=none/\
 t σ H1 λvs H2=>sp (x :: (vs ++ bq)) H2 Q E
def zd1(C:Addr)(sp:Sp)(bq:List V)(E:XK)(t:TA):TE:=λσ H Q=>t σ H λvs H1=>∀x dx,H1 x=none->H1 dx=none->dx≠x->
 sp (.ref x :: (vs ++ bq)) (upd (upd H1 dx (.own x)) x (.ins C dx [])) (λv H2=>v= .non/\Q (.ref x) H2) E
def Binds(K:W.Frag)(fd:FuncData)(ps:List Str)(ds:List Value):Prop:=
 ∀(s:Shared) (us:List Value),K.In s.heap->(us ++ ds).length=ps.length->BindsTo s fd ⟨us,[]⟩ (ps.zip (us ++ ds))
variable{fd:FuncData}{ps:List Str}
theorem Binds.all(h:∀us:List Value,us.length=ps.length->bindArgs fd ⟨us,[]⟩=pure (ps.zip us)):Binds K fd ps []:=λs us _ hl=>by
 rw [Q3]at hl ⊢;exact .of_eq (h us hl)
def z1g(CX:CXT)(X:Cx)(E:XK):Prop:=∀(pins:List (Addr×Obj)) (σ:St) (H:Hp) (s:Shared) (e:Value) (s':Shared),Inv X pins σ H s->CX X.stack H s E e s'->X.xe e s'
variable{vs:List V}{CX:CXT}{sp:Sp}
section
variable{k:Nat}{f:Addr}{bq:List V}{ds:List Value}{E:XK}{m:Str}{pos apos:Pos}{o:Expr}
theorem z7Z{Q:VK}(F:FnOk X.prog X.w X.K X.mg X.base CX k f fd ps sp)(hr:Room k X.A)(a:Binds X.K fd ps ds)(hd:zQ bq ds)(c:z1g CX X E)
  (I:Inv X pins σ H s) (r:zQ vs us) (h:sp (vs ++ bq) H Q E):wpAny (model X.prog X.w) X.A (call (.ref f) us) (EP X pins σ Q) X.xe s:=by
 have r2:zQ (vs ++ bq) (us ++ ds):=r.append hd;have hl:(us ++ ds).length=ps.length:=by rw [<-r2.length];exact F.len _ _ _ _ h
 refine w1J (w0u (F.run X.A X.stack s H ⟨us,[]⟩ (us ++ ds) (vs ++ bq) Q E hr I.env0 (a s us I.kIn hl) r2 h) λr s' hq=> ?_);cases r with
 | error e=>exact c pins σ H s e s' I hq
 | ok b=>
  cases b with
  | ret u=>exact I.after hq
  | next=>exact False.elim hq
  | brk=>exact False.elim hq
  | cont=>exact False.elim hq
theorem zca(F:FnOk X.prog X.w X.K X.mg X.base CX k f fd ps sp)(hr:Room k X.A)(d:Gl X x)(hm:X.mg x=some (.ref f))(j:PySem.W.keepIn X.K (.ref f)=true)(b:Binds X.K fd ps ds)(hd:zQ bq ds)(n:z1g CX X E)
  (ha:PA X (e :: es) t) (c:(x == ("__debug__":Str))=false:=by decide) (l:starEach (e :: es) X.env=(false,eval e X.env) :: starEach es X.env:=by rfl) (i:(backTo pos (starEach es X.env)).any (·.1)=false:=by rfl):
  PE X (.Call (.Name x p) (e :: es) [] pos) (zag sp bq E t):=by
 intro pins s σ H Q I h;refine Qx (z37 I d hm ?_ c);refine w0T (h₀:=X.base) I.ok.mod.kin j (thn (ha pos pins s σ H _ I h) ?_) l i;rintro us s1 ⟨vs,H1,a,r,q⟩;refine⟨a.kIn,?_⟩;exact z7Z F hr b hd n a r q
theorem zcC{pl:Sem Bool}(B:PE X o ta)(c:Cls X.K C)(hm:Meth X.K C m f)(F:FnOk X.prog X.w X.K X.mg X.base CX k f fd ps sp)(hr:Room k X.A)(j:Binds X.K fd ps ds)(hd:zQ bq ds)(G:z1g CX X E)(ha:PA X (e :: es) t)
  (p:starEach (e :: es) X.env=(false,eval e X.env) :: starEach es X.env:=by rfl) (z:(backTo pos (starEach es X.env)).any (·.1)=false:=by rfl)
  (ht:eval (.Call (.Attribute o m apos) (e :: es) [] pos) X.env=(do
   let d<-eval o X.env
   standAt apos.atName
   let (f,first)<-holding [d] (getMethod d m pl)
   callWith pos f first (backTo pos (starEach (e :: es) X.env)) (backToKw pos (keywordEach [] X.env))):=by rfl):
  PE X (.Call (.Attribute o m apos) (e :: es) [] pos) (z8u C m sp bq E ta t):=by
 intro pins s σ H Q I h;refine PySem.W.methodCall_KW (pl:=pl) (thn (B pins s σ H _ I h) ?_) ht;rintro u s1 ⟨x,H1,b,y,a,dx,fs,ex,D,l,q⟩;subst ex;obtain rfl:u=Value.ref a:=y;refine z2D b D c hm l ?_;refine w0T (first:= [.ref a]) (h₀:=X.base) I.ok.mod.kin hm.kp (thn (ha pos pins s1 σ H1 _ b q) ?_) p z;rintro us s2 ⟨vs,H2,i,r,n⟩;refine⟨i.kIn,?_⟩;exact z7Z (us:= .ref a :: us) (vs:= .ref a :: vs) F hr j hd G i (.cons rfl r) n
theorem zaa{pl:Sem Bool}(j:PE X o ta)(c:Cls X.K C)(hm:Meth X.K C m f)(F:FnOk X.prog X.w X.K X.mg X.base CX k f fd ps sp)(hr:Room k X.A)(e:Binds X.K fd ps ds)(hd:zQ bq ds)(p:z1g CX X E)
  (ht:eval (.Call (.Attribute o m apos) [] [] pos) X.env=(do
   let d<-eval o X.env
   standAt apos.atName
   let (f,first)<-holding [d] (getMethod d m pl)
   callWith pos f first (backTo pos (starEach [] X.env)) (backToKw pos (keywordEach [] X.env))):=by rfl):
  PE X (.Call (.Attribute o m apos) [] [] pos) (z8u C m sp bq E ta zdc):=by
 intro pins s σ H Q I h;refine PySem.W.methodCall_KW (pl:=pl) (thn (j pins s σ H _ I h) ?_) ht;rintro u s1 ⟨x,H1,b,i,a,dx,fs,ex,n,l,q⟩;subst ex;obtain rfl:u=Value.ref a:=i;refine z2D b n c hm l ?_;exact PySem.W.callWith_K0 (first:= [.ref a]) b.kIn hm.kp (z7Z (us:= [.ref a]) (vs:= [.ref a]) F hr e hd p b (.cons rfl .nil) q)
structure Mk(K:W.Frag)(C f:Addr):Prop where
 makes:PySem.W.makesIn K C=true
 init:PySem.W.findIn K (.ref C) "__init__"=some (some (.ref f))
 fn:PySem.W.isFn K (.ref f)=true
 kp:PySem.W.keepIn K (.ref C)=true
theorem zat{Q:VK}(M:Mk X.K C f)(F:FnOk X.prog X.w X.K X.mg X.base CX k f fd ps sp)(hr:Room (k + 1) X.A)(c:Binds X.K fd ps ds)(hd:zQ bq ds)
  (l:z1g CX X E) (I:Inv X pins σ H s) (r:zQ vs us)
  (h:∀x dx,H x=none->H dx=none->dx≠x->sp (.ref x :: (vs ++ bq)) (upd (upd H dx (.own x)) x (.ins C dx [])) (λv H2=>v= .non/\Q (.ref x) H2) E):
  wpAny (model X.prog X.w) X.A (call (.ref C) us) (EP X pins σ Q) X.xe s:=by
 have hq:=h (s.heap.objs.size + 1) s.heap.objs.size (I.hok.fresh (Nat.le_succ _)) (I.hok.fresh (wu _)) (qe (w05 _));have b:=Inv.made (C:=C) I;have r2:zQ (V.ref (s.heap.objs.size + 1) :: (vs ++ bq)) (Value.ref (s.heap.objs.size + 1) :: (us ++ ds)):= .cons rfl (r.append hd);have hl:(Value.ref (s.heap.objs.size + 1) :: us ++ ds).length=ps.length:=by
  have e:=r2.length;rw [F.len _ _ _ _ hq]at e;exact e.symm
 refine w1J (zaN (f:=f) I.kIn M.makes M.init (Qt.mp M.fn) (w0u (F.run _ X.stack _ _ ⟨Value.ref (s.heap.objs.size + 1) :: us,[]⟩ (Value.ref (s.heap.objs.size + 1) :: (us ++ ds)) _ _ E (hr.make C us [])
  (b.env0.make C us []) (c _ (Value.ref (s.heap.objs.size + 1) :: us) b.kIn hl) r2 hq) λr s' a=> ?_))
 cases r with
 | error e=>exact l pins σ _ _ e s' b a
 | ok i=>
  cases i with
  | ret u=>
   obtain⟨v,H',n,j,ev,d⟩:=b.after a;subst ev;exact⟨j,⟨V.ref (s.heap.objs.size + 1),H',n,rfl,d⟩⟩
  | next=>exact False.elim a
  | brk=>exact False.elim a
  | cont=>exact False.elim a
theorem zc6(M:Mk X.K C f)(F:FnOk X.prog X.w X.K X.mg X.base CX k f fd ps sp)(hr:Room (k + 1) X.A)(d:Gl X x)(hm:X.mg x=some (.ref C))(b:Binds X.K fd ps ds)(hd:zQ bq ds)(l:z1g CX X E)
  (ha:PA X (e :: es) t) (c:(x == ("__debug__":Str))=false:=by decide) (j:starEach (e :: es) X.env=(false,eval e X.env) :: starEach es X.env:=by rfl) (i:(backTo pos (starEach es X.env)).any (·.1)=false:=by rfl):
  PE X (.Call (.Name x p) (e :: es) [] pos) (zd1 C sp bq E t):=by
 intro pins s σ H Q I h;refine Qx (z37 I d hm ?_ c);refine w0T (h₀:=X.base) I.ok.mod.kin M.kp (thn (ha pos pins s σ H _ I h) ?_) j i;rintro us s1 ⟨vs,H1,a,r,q⟩;refine⟨a.kIn,?_⟩;exact zat M F hr b hd l a r q
end
section
variable{k:Nat}{f:Addr}{ks:List Str}{E:XK}{m:Str}{pos apos vb:Pos}{o:Expr}{Dd:List Keyword}{tk:TA}{nm:Option Str}
structure KBinds(K:W.Frag)(fd:FuncData)(ps ks:List Str)(g:List Value->List Value->List Value)(gV:List V->List V->List V):Prop where
 to:∀(s:Shared) (us ws:List Value),K.In s.heap->(g us ws).length=ps.length->BindsTo s fd ⟨us,ks.zip ws⟩ (ps.zip (g us ws))
 rel:∀{vs:List V} {us:List Value} {zs:List V} {ws:List Value},zQ vs us->zQ zs ws->zQ (gV vs zs) (g us ws)
variable{g:List Value->List Value->List Value}{gV:List V->List V->List V}
end
structure FnScope(N P:List Str)(sc:Scope):Prop where
 kind:sc.kind= .function
 co:sc.isCoroutine=false
 gen:sc.isGenerator=false
 nd:N.Nodup
 pre:N.take P.length=P
 par:∀x∈P,sc.names.lookup x=some .local\/sc.names.lookup x=some .cell
 nofree:∀y∈sc.names,y.2≠ .free
theorem z5f{kindOf:Str->Option NameKind}{x:Str}:∀{binds:List (Str×Value)} {m:Str->Option Value},(∀v,(x,v)∉binds)->bindL kindOf binds m x=m x
 | [],_,_=>rfl
 | (n,v) :: r,m,h=>by
  unfold bindL;rw [z5f λw a=>h w (wV _ a)];split
  ·have:x≠n:=by rintro rfl;exact h v qF
   simp [this]
  ·rfl
theorem z5g{kindOf:Str->Option NameKind}{x:Str}:∀{binds:List (Str×Value)} {m:Str->Option Value},(∀v,(x,v)∉binds)->bindC kindOf binds m x=m x
 | [],_,_=>rfl
 | (n,v) :: r,m,h=>by
  unfold bindC;rw [z5g λw a=>h w (wV _ a)];split
  ·rfl
  ·have:x≠n:=by rintro rfl;exact h v qF
   simp [this]
theorem z5B{kindOf:Str->Option NameKind}{x:Str}{v:Value}:∀{P:List Str} {vs:List Value} {i:Nat} {m:Str->Option Value},P.Nodup->P[i]? =some x->vs[i]? =some v->kindOf x=some .local->
  bindL kindOf (P.zip vs) m x=some v
 | [],_,_,_,_,h,_,_=>by simp at h
 | _ :: _,[],_,_,_,_,h,_=>by simp at h
 | p :: P,w :: vs,0,m,nd,h1,h2,a=>by
  simp at h1 h2;subst h1;subst h2
  show bindL kindOf ((p,w) :: P.zip vs) m p=_
  unfold bindL;rw [z5f λv b=>(w0l.mp nd).1 (List.of_mem_zip b).1,wY a];simp
 | p :: P,w :: vs,i + 1,m,nd,h1,h2,a=>by
  show bindL kindOf ((p,w) :: P.zip vs) m x=_
  unfold bindL;exact z5B (i:=i) (w0l.mp nd).2 (by simpa using h1) (by simpa using h2) a
theorem z5y{kindOf:Str->Option NameKind}{x:Str}{v:Value}:∀{P:List Str} {vs:List Value} {i:Nat} {m:Str->Option Value},P.Nodup->P[i]? =some x->vs[i]? =some v->kindOf x≠some .local->
  bindC kindOf (P.zip vs) m x=some v
 | [],_,_,_,_,h,_,_=>by simp at h
 | _ :: _,[],_,_,_,_,h,_=>by simp at h
 | p :: P,w :: vs,0,m,nd,h1,h2,a=>by
  simp at h1 h2;subst h1;subst h2
  show bindC kindOf ((p,w) :: P.zip vs) m p=_
  unfold bindC;rw [z5g λv b=>(w0l.mp nd).1 (List.of_mem_zip b).1,wU a];simp
 | p :: P,w :: vs,i + 1,m,nd,h1,h2,a=>by
  show bindC kindOf ((p,w) :: P.zip vs) m x=_
  unfold bindC;exact z5y (i:=i) (w0l.mp nd).2 (by simpa using h1) (by simpa using h2) a
noncomputable def start(N:List Str)(vs:List V):St:=vs.map some ++ List.replicate (N.length - vs.length) none
noncomputable def z3k(CX:CXT)(P:Program)(w:World)(K:W.Frag)(mg:Str->Option Value)(base:Heap)(N:List Str)(qual:Str)(scope:Scope)(f:Addr)(cd:Value)(A:Around)(outer:List Env)(s:Shared)(H:Hp)(E:XK):Cx where
 prog:=P
 w:=w
 K:=K
 mg:=mg
 base:=base
 A:=A.deeper (envOfC qual scope s.heap.objs.size f cd)
 N:=N
 s₀:=s
 H₀:=H
 env:=envOfC qual scope s.heap.objs.size f cd
 outer:=outer
 stack:=envOfC qual scope s.heap.objs.size f cd :: outer
 ex:= []
 calm:=true
 fn:=λ_=>true
 pn:= []
 xe:=λe s'=>wpAny (model P w) (A.deeper (envOfC qual scope s.heap.objs.size f cd)) (leaving (envOfC qual scope s.heap.objs.size f cd) e) (λ_ a=>CX outer H s E e a) (λb a=>CX outer H s E b a) s'
theorem z6w{sc:Scope}(h:sc.names.lookup x=some .cell):∃c,(cellsFrom n sc.names []).lookup x=some c:=by
 have q:=PySem.W.cellsFrom_some sc.names n [] (.inl h);exact Option.isSome_iff_exists.mp q
variable{scope:Scope}
theorem z5F{qual:Str}{f:Addr}{cd:Value}{s1:Shared}{E:XK}
  (S:FnScope N ps scope) (hd:A.handled=none) (d:Env0 P w K mg base A outer s H) (hl:vs.length=ps.length) (r:zQ vs us)
  (x:InCallC s s.heap.objs.size (bindL (envOfC qual scope s.heap.objs.size f cd).kindOf (ps.zip us) λ_=>none) (cellsFrom (s.heap.objs.size + 1) scope.names []) (bindC (envOfC qual scope s.heap.objs.size f cd).kindOf (ps.zip us) λ_=>none) s1):
  Inv (z3k CX P w K mg base N qual scope f cd A outer s H E) [] (start N vs) H s1:=by
 have C:ps.length<=N.length:=by have:=Qj List.length S.pre;rw [wX]at this;lia
 obtain⟨h1,tk,rfl,o⟩:=x.done;have j:∀b:Addr,b∉(z3k CX P w K mg base N qual scope f cd A outer s H E).ex:=λb z=>absurd (show b∈([]:List Addr)from z) (by simp)
 refine⟨⟨d.mod,S.kind,rfl,rfl,wu _,λy z c h1 h2=> ?_,λy hy=> ?_,λy c _ h=> ?_,λ_=>hd,Around.frames_deeper d.frames,.inr ⟨rfl,rfl⟩,λb z=>absurd z (j b),d.bs,d.bsz,λb _ _=>j b,λb z=>absurd z (j b),d.funs,d.frf⟩,
  rfl,d.bare,Un.kept o,⟨_,x.toInCall.ns,λi y v h1 h2 D=> ?_⟩,λy c h=>⟨_,x.cell y c h⟩,d.hok.fresh (wu _),λy c h=> ?_,λp hp=>absurd (show p∈([]:List (Addr×Obj))from hp) (by simp),d.hok.kept o,?_⟩
 ·exact name_of_addr x.apart (Qm h1) (Qm h2)
 ·have hy:scope.names.lookup y=some .cell\/scope.names.lookup y=some .free:=hy;rcases hy with hy | hy
  ·exact z6w hy
  ·exact absurd rfl (S.nofree _ (Qm hy))
 ·exact w1E (x.above y c (Qm h))
 ·have hi:i < vs.length:=by
   unfold start at h2;by_cases hi:i < vs.length
   ·exact hi
   ·rw [qS (by simpa using hi)]at h2;rw [List.getElem?_replicate]at h2;split at h2 <;> cases h2
  have ha:vs[i]? =some v:=by
   unfold start at h2;rw [qU (by simpa using hi),wQ]at h2;cases e:vs[i]? with
   | none=>rw [e]at h2;cases h2
   | some a=>rw [e]at h2;cases h2;rfl
  obtain⟨u,l,B⟩:=r.get ha;have hp:ps[i]? =some y:=by
   rw [<-S.pre,List.getElem?_take_of_lt (by lia)];exact h1
  have t:ps.Nodup:=by rw [<-S.pre];exact S.nd.sublist (List.take_sublist _ _)
  refine⟨u,B,?_⟩;rcases S.par y (qA hp)with k | k
  ·exact .inl ⟨k,z5B t hp l k⟩
  ·obtain⟨c,e⟩:=z6w (n:=s.heap.objs.size + 1) k;refine .inr ⟨.inl k,c,e,?_⟩;have q:=x.cell y c e;rw [z5y t hp l (by show scope.names.lookup y≠_;rw [k];decide)]at q;exact q
 ·exact d.hok.fresh (w1E (x.above y c (Qm h)))
 ·unfold start
  show _=N.length
  rw [wg,w9,w0v]
  lia
theorem zd7{k:Nat}{f:Addr}{name qual:Str}{params:Arguments}{h kV aS pm ad ct oc:Value}{an od:Option Addr}
  {cB:Array (Option Value)}   (p:K.lookup f=some ⟨oc,od,.func (PySem.W.fnOf name qual params body scope h kV aS pm an ad ct),cB⟩) (z:PySem.W.codeIn K ad qual=true) (S:FnScope N ps scope)
  (len:∀vs H Q E,sp vs H Q E->vs.length=ps.length)
  (l:∀(A:Around) (outer:List Env) (s:Shared) (H:Hp) (vs:List V) (Q:VK) (E:XK),Room k (A.deeper (envOfC qual scope s.heap.objs.size f ad))->sp vs H Q E->
   ∃t,PSs (z3k CX P w K mg base N qual scope f ad A outer s H E) body t/\t {nx:=λ_ H'=>Q .non H',rt:=Q} (start N vs) H):
  FnOk P w K mg base CX (k + 1) f (PySem.W.fnOf name qual params body scope h kV aS pm an ad ct) ps sp:=by
 refine⟨len,λA outer s H args us vs Q E hr a j r d=> ?_⟩;have hl:=len _ _ _ _ d;have i:K.In s.heap:=a.mod.kin.keeps λb o e=>(a.bs b o e).1
 have G:s.heap.NoLimit:=a.mod.nolimit.keeps λb o e=>(a.bs b o e).1
 have C:∀y∈ps.zip us,scope.names.lookup y.1=some .local\/(scope.names.lookup y.1=some .cell/\((cellsFrom (s.heap.objs.size + 1) scope.names []).lookup y.1).isSome=true):=λ⟨n,v⟩ B=>by
  rcases S.par n (List.of_mem_zip B).1 with q | q
  ·exact .inl q
  ·exact .inr ⟨q,PySem.W.cellsFrom_some _ _ _ (.inl q)⟩
 refine codeAny_call_function hr.depth (i _ _ p) rfl S.co S.gen rfl (PySem.W.codeRec_of i z) (j _ _ _ _ ?_);refine wpAny_newFunctionEnv_cells S.kind C λenv F s1 x=> ?_
 subst F;refine⟨G.keeps x.toInCall.keep,codeAny_func ?_⟩;obtain⟨t,ht,hq⟩:=l A outer s H vs Q E (hr.deeper _) d;have I:Inv (z3k CX P w K mg base N qual scope f ad A outer s H E) [] (start N vs) H s1:=z5F S hr.hd a hl r x;refine QR (ht [] s1 (start N vs) H _ I hq) (λD s' hs=> ?_) λe s' hs=>hs
 have fin:∀{σ':St} {H':Hp} {v:V} {u:Value},Inv (z3k CX P w K mg base N qual scope f ad A outer s H E) [] σ' H' s'->RelV v u->Q v H'->CE outer P w H s Q u s':=
  λ{σ' H' v u} J c q=>⟨v,H',J.os,J.bare,J.base,J.hok,c,q⟩
 cases D with
 | ret u=>
  obtain⟨v,σ',H',J,c,q⟩:=hs;exact fin J c q
 | next=>
  obtain⟨σ',H',J,q⟩:=hs;exact fin (v:=V.non) (u:=Value.none) J rfl q
 | brk=>
  obtain⟨_,_,_,q⟩:=hs;exact False.elim q
 | cont=>
  obtain⟨_,_,_,q⟩:=hs;exact False.elim q
section
variable{pos:Pos}{id T:String}{r:List V->Hp->VK->Prop}
def tCB(r:List V->Hp->VK->Prop)(t:TA):TE:=λσ H Q=>t σ H λvs H1=>r vs H1 Q
theorem zR(hc:kj X (.builtin id) r)(d:Gl X x)(hm:X.mg x=none)(b:bootBuiltins x=some (.builtin id))(ha:PA X (e :: es) t)(hn:x≠"__name__":=by decide)(a:(x == ("__debug__":Str))=false:=by decide)
  (i:starEach (e :: es) X.env=(false,eval e X.env) :: starEach es X.env:=by rfl) (f:(backTo pos (starEach es X.env)).any (·.1)=false:=by rfl):PE X (.Call (.Name x p) (e :: es) [] pos) (tCB r t):=by
 intro pins s σ H Q I h;refine Qx (z1l I d hm b ?_ hn a);exact PyProof.Rows.callWith_builtin1 (thn (ha pos pins s σ H _ I h) λus s1 ⟨vs,H1,c,r1,q1⟩=>hc pins s1 σ H1 vs us Q c r1 q1) i f
theorem jg(hc:kj X (.type T) r)(d:Gl X x)(hm:X.mg x=none)(b:bootBuiltins x=some (.type T))(ha:PA X (e :: es) t)(hn:x≠"__name__":=by decide)(a:(x == ("__debug__":Str))=false:=by decide)
  (i:starEach (e :: es) X.env=(false,eval e X.env) :: starEach es X.env:=by rfl) (f:(backTo pos (starEach es X.env)).any (·.1)=false:=by rfl):PE X (.Call (.Name x p) (e :: es) [] pos) (tCB r t):=by
 intro pins s σ H Q I h;refine Qx (z1l I d hm b ?_ hn a);exact Qb (thn (ha pos pins s σ H _ I h) λus s1 ⟨vs,H1,c,r1,q1⟩=>hc pins s1 σ H1 vs us Q c r1 q1) i f
end
end L2
namespace HT
open PySem PyProof.Rows
section
open PySem.SeqAt
open PySem.AutoSeq1 (wpAny_loadPart')
open PySem.MeetsSeq PySem.MeetsSeq2 PySem.MeetsSeq3
end
variable{Q:Value->Shared->Prop}
section
variable{prog:Program}{w:World}{A:Around}{E:Value->Shared->Prop}{s:Shared}
theorem cat_tup{t b:Addr}{vs ws:List Value}(ht:IsTup s.heap t vs.toArray)(o:IsTup s.heap b ws.toArray)(f:vs≠ [])
  (h1:ws= []->Q (.ref t) s) (h2:ws≠ []->Q (.ref s.heap.objs.size) {s with heap:=s.heap.push {cls:= .type "tuple",data:= .seq (vs ++ ws).toArray}})
  (hsz:vs.length + ws.length<=sizeLine):wpAny (model prog w) A (binaryOp .Add (.ref t) (.ref b)) Q E s:=by
 obtain⟨⟨cls,d,data,sl⟩,c,hc,n,hd⟩:=id ht;obtain⟨⟨p,h,data2,sl2⟩,a,i,j,l⟩:=id o;simp only at hc hd i l;subst hc hd i l;have e:vs.toArray ++ ws.toArray=(vs ++ ws).toArray:=by simp
 by_cases hw:ws= []
 ·exact concat_meets ⟨_,c,rfl⟩ ⟨_,a,rfl⟩ noFill_tuple_add seq_tuple_add PySem.F.slot_tuple_add PySem.F.entry_tuple_add (PySem.F.args_tuple_add_2 _ _)
   (tuple_addW1 t b vs.toArray ws.toArray n j d h sl sl2 (by simpa using f) (by simp [hw])) ⟨c,a,h1 hw⟩
 ·refine concat_meets ⟨_,c,rfl⟩ ⟨_,a,rfl⟩ noFill_tuple_add seq_tuple_add PySem.F.slot_tuple_add PySem.F.entry_tuple_add (PySem.F.args_tuple_add_2 _ _)
   (tuple_addW2 t b vs.toArray ws.toArray n j d h sl sl2 (by simpa using f) (by simpa using hw) (by rw [wB,wB];exact hsz)) ⟨c,a,?_⟩
  rw [e];exact h2 hw
noncomputable def sIx(n d:Nat):Option Int->Nat
 | none=>d
 | some v=>if v < 0 then(v + (n:Int)).toNat else min v.toNat n
theorem sIx_none(n d:Nat):sIx n d none=d:=rfl
theorem zdr(n d:Nat)(hd:d<=n)(o:Option Int):sIx n d o<=n:=by
 cases o with
 | none=>exact hd
 | some v=>
  show(if v < 0 then(v + (n:Int)).toNat else min v.toNat n)<=n
  by_cases hv:v < 0
  ·rw [wY hv];lia
  ·rw [wU hv];exact Nat.min_le_right _ _
theorem z8b(v:Int)(n d:Nat):(if v < 0 then max (v + (n:Int)) 0 else min v (n:Int))=((sIx n d (some v):Nat):Int):=by
 show(if v < 0 then max (v + (n:Int)) 0 else min v (n:Int))=(((if v < 0 then(v + (n:Int)).toNat else min v.toNat n):Nat):Int)
 by_cases hv:v < 0
 ·simp only [wY hv];lia
 ·simp only [wU hv];lia
theorem z7C(lo hi:Option Int)(n:Nat):Builtin.Slice.sliceAdjust lo hi 1 (n:Int)=(((sIx n 0 lo:Nat):Int),((sIx n n hi:Nat):Int)):=by
 have h1:¬((1:Int) < 0):=by lia
 unfold Builtin.Slice.sliceAdjust;simp only [h1,w0B];refine Prod.ext ?_ ?_
 ·cases lo with
  | none=>rfl
  | some v=>exact z8b v n 0
 ·cases hi with
  | none=>rfl
  | some v=>exact z8b v n n
theorem z7x(i j:Nat):Builtin.Slice.slicePlaces (i:Int) (j:Int) 1=j - i:=by
 unfold Builtin.Slice.slicePlaces;have h1:(1:Int) > 0:=by lia
 simp only [h1,w0S,Int.ediv_one];split <;> lia
theorem z4t{v:Value}{o:Option Int}{Q:Option Int->Shared->Prop}(p:IsPart v o)(h:Q o s):wpAny (model prog w) A (Builtin.Slice.slicePartIndex v) Q E s:=by
 cases p with
 | none=>exact slicePart_none h
 | int i t=>exact slicePart_int h
variable{lo hi:Option Int}
theorem sliceApplied_gen{sl:Addr}{c b:Value}{n:Nat}{Q:Int×Int×Nat->Shared->Prop}(hs:s.heap.IsSliceOf sl c b .none)(pl:IsPart c lo)(d:IsPart b hi)
  (h:Q (((sIx n 0 lo:Nat):Int),1,sIx n n hi - sIx n 0 lo) s):wpAny (model prog w) A (Builtin.Slice.sliceApplied (.ref sl) (pure (n:Int))) Q E s:=by
 obtain⟨os,a,e,hds⟩:=id hs;unfold Builtin.Slice.sliceApplied Builtin.Slice.sliceFields;refine wC (wC (wpAny_field a hds (x:=c) rfl (wC (wpAny_field a hds (x:=b) rfl (wC (wpAny_field a hds (x:= .none) rfl (qd ?_)))))));refine wC (slicePart_none ?_)
 show wpAny _ _ (if((1:Int) == 0)=true then _ else _) _ _ s
 rw [wU (by decide)];refine wC (z4t pl (wC (z4t d (wC (qd ?_)))))
 show wpAny _ _ (match Builtin.Slice.sliceAdjust lo hi 1 (n:Int)with | (lo,hi)=>pure (lo,(1:Int),Builtin.Slice.slicePlaces lo hi 1)) _ _ s
 rw [z7C lo hi n]
 show wpAny _ _ (pure (((sIx n 0 lo:Nat):Int),(1:Int),Builtin.Slice.slicePlaces ((sIx n 0 lo:Nat):Int) ((sIx n n hi:Nat):Int) 1)) _ _ s
 rw [z7x];exact qd h
theorem zbk(xs:Array Value)(i k:Nat):((List.range k).filterMap λ(m:Nat)=>xs[((i:Int) + (m:Int) * 1).toNat]?).toArray=((xs.toList.drop i).take k).toArray:=by
 have e:(λ(m:Nat)=>xs[((i:Int) + (m:Int) * 1).toNat]?)=λm=>xs[i + m]? :=by
  funext m
  have:((i:Int) + (m:Int) * 1).toNat=i + m:=by lia
  rw [this]
 rw [e];have:=pick_run xs i k;rw [List.filterMap_map]at this;have a:((λx=>xs[x]?) ∘ λx=>i + x)=λm=>xs[i + m]? :=rfl
 rw [a]at this;rw [this]
theorem getItem_tuple_cut{t sl:Addr}{items:Array Value}{c b:Value}(ht:IsTup s.heap t items)(hs:s.heap.IsSliceOf sl c b .none)(pl:IsPart c lo)(i:IsPart b hi)
  (e:¬(sIx items.size 0 lo=0/\sIx items.size items.size hi=items.size))
  (h:Q (.ref s.heap.objs.size) {s with heap:=s.heap.push {cls:= .type "tuple",data:= .seq ((items.toList.drop (sIx items.size 0 lo)).take (sIx items.size items.size hi - sIx items.size 0 lo)).toArray}})
  (hsz:items.size<=sizeLine):wpAny (model prog w) A (getItem (.ref t) (.ref sl)) Q E s:=by
 have a:sizeOk (.seq ((items.toList.drop (sIx items.size 0 lo)).take (sIx items.size items.size hi - sIx items.size 0 lo)).toArray):=by
  show((items.toList.drop (sIx items.size 0 lo)).take (sIx items.size items.size hi - sIx items.size 0 lo)).toArray.size<=sizeLine
  rw [wB,wX,w0P,w0K]
  lia
 have o:sIx items.size items.size hi<=items.size:=zdr _ _ (wu _) hi;obtain⟨os,j,l,hds⟩:=id hs;have f:s.TypeIs (.ref sl) "slice":=⟨os,j,l⟩;unfold getItem
 try with_reducible refine QV ?_
 first | refine wC (qd ?_) | skip
 refine wC (wpAny_sequenceKey ht.typeIs (by decide) ?_);refine wC (wpAny_callSpecial?_slot (name:=Str.ofString "__getitem__") ht.typeIs Qc
  (wpAny_call_entry Qc ht.typeIs entry_tuple_getitem ?_ (args_tuple_getitem _ _)))
 show wpAny _ _ (Builtin.Tuple.tupleItemsOf (.ref t) >>= _) _ _ s
 refine wC (tupleItemsOf_ ht ?_);refine wC (wpAny_typeOf f ?_);rw [wY (by decide)];refine wC (sliceApplied_gen hs pl i ?_);have d:¬((((sIx items.size 0 lo:Nat):Int) == 0 && (1:Int) == 1 && (sIx items.size items.size hi - sIx items.size 0 lo) == items.size)=true):=by
  intro q;rw [Q2,Q2]at q;have q1:((sIx items.size 0 lo:Nat):Int)=0:=eq_of_beq q.1.1;have n:sIx items.size items.size hi - sIx items.size 0 lo=items.size:=eq_of_beq q.2;exact e ⟨by lia,by lia⟩
 show wpAny _ _ (if(((sIx items.size 0 lo:Nat):Int) == 0 && (1:Int) == 1 && (sIx items.size items.size hi - sIx items.size 0 lo) == items.size)=true then _ else _) _ _ s
 rw [wU d,zbk]
 first
  | exact wC (m:=Builtin.Tuple.tupleExact _) (w0G (qd ⟨_,rfl,qd h⟩) a)
  | exact wC (m:=Builtin.Tuple.tupleExact _) (w0G (wC (qd (qd ⟨_,rfl,qd h⟩))) a)
  | exact wC (wC (m:=Builtin.Tuple.tupleExact _) (w0G (qd (qd ⟨_,rfl,qd h⟩)) a))
  | exact wC (wC (m:=Builtin.Tuple.tupleExact _) (w0G (qd ⟨_,rfl,qd h⟩) a))
end
end HT
namespace L2
open PySem PySem.Spec PyProof.Rows
abbrev TO:=St->Hp->(Option Int->Hp->Prop)->Prop
def PO(X:Cx)(e:Option Expr)(t:TO):Prop:=
 ∀(pins:List (Addr×Obj)) (s:Shared) (σ:St) (H:Hp) (Q:Option Int->Hp->Prop),Inv X pins σ H s->t σ H Q->
  wpAny (model X.prog X.w) X.A (evalPart e X.env) (λu s'=>∃o H',Inv X pins σ H' s'/\IsPart u o/\Q o H') X.xe s
def zc3:TO:=λ_ H Q=>Q none H
def zes(t:TE):TO:=λσ H Q=>t σ H λx H1=>∃i,x= .int i/\Q (some i) H1
theorem intsAre_of{ns:List Int}:∀{us:List Value},zQ (ns.map V.int) us->IntsAre us ns:=by
 induction ns with
 | nil=>intro us r;rw [w0W]at r;cases r;exact .nil
 | cons n ns a=>
  intro us r;rw [qK]at r;cases r with
  | cons r1 r2=>
   obtain⟨t,e⟩:=r1;subst e;exact .cons n t (a r2)
variable{X:Cx}{e:Expr}{us:List Value}
section
variable{te:TE}{lo hi:Option Expr}{tl th:TO}{pos p2:Pos}
theorem jx:PO X none zc3:=by
 intro pins s σ H Q I h;rw [evalPart_none];exact qd ⟨none,H,I,.none,h⟩
theorem jk(h:PE X e te):PO X (some e) (zes te):=by
 intro pins s σ H Q I b;rw [evalPart_some];refine thn (h pins s σ H _ I b) ?_;rintro u s1 ⟨x,H1,a,r1,q1⟩;obtain⟨i,rfl,q⟩:=q1;obtain⟨t,rfl⟩:=r1;exact⟨some i,H1,a,.int i t,q⟩
def SlR(X:Cx)(r:V->Option Int->Option Int->Hp->VK->Prop):Prop:=
 ∀(pins:List (Addr×Obj)) (s:Shared) (σ:St) (H:Hp) (x:V) (v b a:Value) (lo hi:Option Int) (sl:Addr) (Q:VK),Inv X pins σ H s->RelV x v->s.heap.IsSliceOf sl b a .none->IsPart b lo->IsPart a hi->r x lo hi H Q->
  ∃T id,typeLookup (.type T) "__getitem__"=pure (some (.builtin id))/\s.TypeIs v T/\wpAny (model X.prog X.w) X.A (getItem v (.ref sl)) (EP X pins σ Q) X.xe s
variable{r:V->Option Int->Option Int->Hp->VK->Prop}
theorem SlR.or{r':V->Option Int->Option Int->Hp->VK->Prop}(h:SlR X r)(h':SlR X r'):SlR X (λx lo hi H Q=>r x lo hi H Q\/r' x lo hi H Q):=by
 intro pins s σ H x v d a lo hi sl Q I b hs pl c q;rcases q with q | q
 ·exact h pins s σ H x v d a lo hi sl Q I b hs pl c q
 ·exact h' pins s σ H x v d a lo hi sl Q I b hs pl c q
def tSl(r:V->Option Int->Option Int->Hp->VK->Prop)(te:TE)(tl th:TO):TE:=λσ H Q=>te σ H λx H1=>tl σ H1 λl H2=>th σ H2 λu a=>r x l u a Q
theorem jc(hr:SlR X r)(C:PE X e te)(hl:PO X lo tl)(n:PO X hi th):PE X (.Subscript e (.Slice lo hi none p2) pos) (tSl r te tl th):=by
 intro pins s σ H Q I h;refine Subscript_ (thn (C pins s σ H _ I h) ?_);rintro v s1 ⟨x,H1,j,r1,q1⟩;refine wpAny_Slice (thn (hl pins s1 σ H1 _ j q1) ?_);rintro d s2 ⟨l,H2,y,pl,i⟩;refine thn (n pins s2 σ H2 _ y i) ?_;rintro c a ⟨u,f,D,B,o⟩;rw [evalPart_none];refine qd ?_;have z:Inv X pins σ f {a with heap:=a.heap.push {cls:= .type "slice",data:= .fields #[d,c,.none]}}:=D.kept (t':=a.toks) λb E q=>wo _ q
 obtain⟨T,id,p,ht,t⟩:=hr pins {a with heap:=a.heap.push {cls:= .type "slice",data:= .fields #[d,c,.none]}} σ f x v d c l u a.heap.objs.size Q z r1 (Heap.IsSliceOf.new ..) pl B o
 show wpAny (model X.prog X.w) X.A (subscriptTail e (.Slice lo hi none p2) v (.ref a.heap.objs.size)) (EP X pins σ Q) X.xe {a with heap:=a.heap.push {cls:= .type "slice",data:= .fields #[d,c,.none]}}
 exact tail_any (ops:= [.ref a.heap.objs.size,v]) ht p t (by with_unfolding_all rfl)
noncomputable def z0H(xs:List V)(lo hi:Option Int):List V:=(xs.drop (HT.sIx xs.length 0 lo)).take (HT.sIx xs.length xs.length hi - HT.sIx xs.length 0 lo)
theorem z3C(xs:List V)(lo hi:Option Int):(z0H xs lo hi).length<=xs.length:=by
 unfold z0H;rw [wX,w0P]
 lia
def ze5(K:W.Frag):V->Option Int->Option Int->Hp->VK->Prop:=λx lo hi H Q=>∃a xs,x= .ref a/\SqT K H a xs/\
 ¬(HT.sIx xs.length 0 lo=0/\HT.sIx xs.length xs.length hi=xs.length)/\∀p,H p=none->Q (.ref p) (upd H p (.tup (z0H xs lo hi)))
theorem z14:SlR X (ze5 X.K):=by
 intro pins s σ H x v l j lo hi sl Q I d hs pl e h;obtain⟨a,xs,rfl,f,c,q⟩:=h;cases d;obtain⟨its,r,ht,hz⟩:=I.tuple f;have hlen:its.toArray.size=xs.length:=by rw [wB];exact r.length.symm
 refine⟨"tuple",_,Qc.lookup,ht.typeIs,?_⟩;refine HT.getItem_tuple_cut ht hs pl e (by rw [hlen];exact c) ?_ (by rw [hlen];exact hz);rw [hlen];refine⟨.ref s.heap.objs.size,_,I.laid (t':=s.toks) (o:= .tup (z0H xs lo hi)) (λb i q=>wo _ q) (wu _) ?_,rfl,q _ (I.hok.fresh (wu _))⟩;exact⟨wW (z3C xs lo hi) hz,_,(r.drop (HT.sIx xs.length 0 lo)).take (HT.sIx xs.length xs.length hi - HT.sIx xs.length 0 lo),IsTup.new _ _⟩
def zew(K:W.Frag):R2:=λx y H Q=>∃a b xs ys,x= .ref a/\y= .ref b/\SqT K H a xs/\SqT K H b ys/\xs≠ []/\xs.length + ys.length<=sizeLine/\
 (ys= []->Q (.ref a) H)/\(ys≠ []->∀p,H p=none->Q (.ref p) (upd H p (.tup (xs ++ ys))))
theorem zQ.nil_iff{xs:List V}(r:zQ xs us):us= []↔xs= []:=by
 cases r with
 | nil=>simp
 | cons _ _=>simp
theorem z3Z:OpR X (binaryOp .Add) (zew X.K):=by
 intro pins s σ H x y v u Q I f e h;obtain⟨a,b,xs,ys,rfl,rfl,ha,c,j,hz,q1,d⟩:=h;cases f;cases e;obtain⟨its,r1,i,_⟩:=I.tuple ha;obtain⟨n,r2,p2,_⟩:=I.tuple c;refine HT.cat_tup i p2 (λz=>j (r1.nil_iff.mp z)) (λz=>⟨.ref a,H,I,rfl,q1 (r2.nil_iff.mp z)⟩) (λz=> ?_) (by rw [<-r1.length,<-r2.length];exact hz);refine⟨.ref s.heap.objs.size,_,I.laid (t':=s.toks) (o:= .tup (xs ++ ys)) (λb l q=>wo _ q) (wu _) ?_,rfl,d (λw=>z (r2.nil_iff.mpr w)) _ (I.hok.fresh (wu _))⟩;exact⟨by rw [wg];exact hz,_,r1.append r2,IsTup.new _ _⟩
end
noncomputable def ixN(n:Nat)(i:Int):Option Nat:=if 0<=i then(if i < n then some i.toNat else none)else if -(n:Int)<=i then some (i + n).toNat else none
variable{α:Type}
noncomputable def atI(xs:List α)(i:Int):Option α:=(ixN xs.length i).bind λj=>xs[j]?
variable{n j:Nat}{i:Int}
theorem z8h(h:ixN n i=some j):seqIndex? i n=some j/\j < n/\-(n:Int)<=i/\i < n:=by
 unfold ixN at h;by_cases h0:0<=i
 ·rw [wY h0]at h;by_cases h1:i < n
  ·rw [wY h1]at h;have e:i.toNat=j:=Option.some.inj h;exact⟨by rw [seqIndex_of h0 h1,e],by lia,by lia,h1⟩
  ·rw [wU h1]at h;cases h
 ·rw [wU h0]at h;by_cases h1: -(n:Int)<=i
  ·rw [wY h1]at h;have e:(i + n).toNat=j:=Option.some.inj h;exact⟨by rw [seqIndex_neg (by lia) h1,e],by lia,h1,by lia⟩
  ·rw [wU h1]at h;cases h
variable{xs:List α}
theorem z67{v:α}(h:atI xs i=some v):∃j,seqIndex? i xs.length=some j/\xs[j]? =some v/\j < xs.length/\-(xs.length:Int)<=i/\i < xs.length:=by
 unfold atI at h;cases e:ixN xs.length i with
 | none=>rw [e]at h;cases h
 | some j=>
  rw [e]at h;obtain⟨h1,h2,b,a⟩:=z8h e;exact⟨j,h1,h,h2,b,a⟩
theorem zN{v:α}(h:xs[j]? =some v):atI xs (j:Int)=some v:=by
 have a:j < xs.length:=(wk.mp h).1;have e:ixN xs.length (j:Int)=some j:=by
  unfold ixN;rw [wY (by lia),wY (by lia)];simp
 unfold atI;rw [e];exact h
theorem za0(xs:List α)(v:α):atI (xs ++ [v]) (-1)=some v:=by
 have hl:(xs ++ [v]).length=xs.length + 1:=by simp
 have e:ixN (xs ++ [v]).length (-1)=some xs.length:=by
  unfold ixN;rw [hl,wU (by decide),wY (by lia)]
  congr 1
  lia
 unfold atI;rw [e]
 show(xs ++ [v])[xs.length]? =some v
 simp
def z5P(b:Expr):Prop:=∀o i,subscripted b false o i=operate [o,i] (getItem o i)
def IxR(X:Cx)(r:R2):Prop:=
 ∀(value slice:Expr) (pins:List (Addr×Obj)) (s:Shared) (σ:St) (H:Hp) (x y:V) (v u:Value) (Q:VK),Inv X pins σ H s->RelV x v->RelV y u->r x y H Q->
  subscripted slice false v u=operate [v,u] (getItem v u)->wpAny (model X.prog X.w) X.A (subscriptTail value slice v u) (EP X pins σ Q) X.xe s
def MtR(X:Cx)(id:String)(r:V->List V->Hp->VK->Prop):Prop:=
 ∀(pins:List (Addr×Obj)) (s:Shared) (σ:St) (H:Hp) (x:V) (xs:List V) (v:Value) (us:List Value) (Q:VK),Inv X pins σ H s->RelV x v->zQ xs us->r x xs H Q->
  wpAny (model X.prog X.w) X.A (call (.builtin id) (v :: us)) (EP X pins σ Q) X.xe s
variable{pins:List (Addr×Obj)}{H:Hp}{s:Shared}{its:List Value}{A:Around}{y x:V}{u:Value}
section
variable{a b:Expr}{ta tb:TE}{pos:Pos}
theorem yD{r:R2}(hr:IxR X r)(ha:PE X a ta)(c:PE X b tb)(hs:z5P b):PE X (.Subscript a b pos) (tOp r ta tb):=by
 intro pins s σ H Q I h;exact Subscript_ (zee ha c I h λv u s2 x y H2 f e d q=>hr a b pins s2 σ H2 x y v u Q f e d q (hs _ _))
def zdK(K:W.Frag):R2:=λx y H Q=>∃p xs i v,x= .ref p/\y= .int i/\SqL K H p xs/\atI xs i=some v/\Q v H
def zdL(K:W.Frag):R2:=λx y H Q=>∃p xs i v,x= .ref p/\y= .int i/\SqT K H p xs/\atI xs i=some v/\Q v H
def zfg:R2:=λx y H Q=>∃z i c,x= .str z/\y= .int i/\z.length<=sizeLine/\atI z.cps.toList i=some c/\Q (.str ⟨#[c]⟩) H
theorem z8x:IxR X (zdK X.K):=by
 intro value slice pins s σ H x y v u Q I e d h hs;obtain⟨p,xs,i,z,rfl,rfl,hq,f,q⟩:=h;cases e;obtain⟨t,rfl⟩:=d;obtain⟨its,r,pl,hz⟩:=I.list hq;obtain⟨j,h1,h2,o,c,l⟩:=z67 f;obtain⟨w,b,n⟩:=r.get h2;have hl:=r.length;have hn:=z2s;have fin:EP X pins σ Q w s:=⟨z,H,I,n,q⟩;by_cases h0:0<=i
 ·have a:i.toNat=j:=by
   rw [seqIndex_of h0 l]at h1;exact Option.some.inj h1
  exact item_listR pl.isList h0 (by lia) (by rw [a];simpa using b) fin hs
 ·have a:(i + (its.toArray.size:Int)).toNat=j:=by
   rw [seqIndex_neg (by lia) c]at h1;rw [wB,<-hl];exact Option.some.inj h1
  exact subscriptTail_builtinR (x:=w) pl.isList.typeIs slot_list_getitem.lookup
   (wpAny_getItem_list_neg (Q:=λr s'=>r=w/\EP X pins σ Q r s') pl.isList (by lia) (by rw [wB] <;> lia) (by lia) (by rw [a];simpa using b) ⟨rfl,fin⟩) hs
theorem zaS:IxR X (zdL X.K):=by
 intro value slice pins s σ H x y v u Q I c b h hs;obtain⟨p,xs,i,z,rfl,rfl,hq,d,q⟩:=h;cases c;obtain⟨t,rfl⟩:=b;obtain⟨its,r,pl,hz⟩:=I.tuple hq;obtain⟨j,h1,h2,l,f,n⟩:=z67 d;obtain⟨w,a,e⟩:=r.get h2;have hl:=r.length;have hn:=z2s;have fin:EP X pins σ Q w s:=⟨z,H,I,e,q⟩;exact subscriptTail_builtinR (x:=w) pl.typeIs slot_tuple_getitem.lookup
  (getItem_tuple (j:=j) (Q:=λr s'=>r=w/\EP X pins σ Q r s') pl (by lia) (by lia) (by rw [wB,<-hl];exact h1) (by simpa using a) ⟨rfl,fin⟩) hs
theorem zea:IxR X zfg:=by
 intro value slice pins s σ H x y v u Q I d b h hs;obtain⟨z,i,c,rfl,rfl,hz,f,q⟩:=h;obtain⟨t,rfl⟩:=d;obtain⟨t',rfl⟩:=b;obtain⟨j,h1,h2,o,a,l⟩:=z67 f;have hl:z.cps.toList.length=z.length:=by simp [Str.length]
 rw [hl]at h1 a l;have hn:=z2s;exact tail_any (typeIs_str s z t) slot_str_getitem.lookup (getItem_str (c:=c) (by
  have e:decide (i < -(2 ^ 63:Int))=false:=wL (by lia);have n:decide (i≥2 ^ 63)=false:=wL (by lia);rw [e,n,Bool.or_false]) (by rw [h1];simpa using h2) ⟨.str ⟨#[c]⟩,H,I.tok _,⟨_,rfl⟩,q⟩) hs
theorem z7y(its:List Value)(n j:Nat)(u:Value):Obj.mapSeq (·.setIfInBounds j u) {cls:= .type "list",data:= .seq its.toArray n}={cls:= .type "list",data:= .seq (its.set j u).toArray n}:=by
 simp [Obj.mapSeq]
theorem Inv.lst{pins:List (Addr×Obj)}{σ:St}{H:Hp}{s:Shared}{p:Addr}{xs:List V}(I:Inv X pins σ H s)(h:H p=some (.lst xs)):
  ∃(its:List Value) (n:Nat),zQ xs its/\s.heap.get? p=some {cls:= .type "list",data:= .seq its.toArray n}/\xs.length<=sizeLine:=by
 obtain⟨z,its,n,r,e⟩:=I.hok p _ h;exact⟨its,n,r,e,z⟩
theorem Inv.lstUpd{σ:St}{p:Addr}{xs ys:List V}{its':List Value}{a:Nat}{f:Obj->Obj}(I:Inv X pins σ H s)(h:H p=some (.lst xs))
  (i:s.heap.get? p=some {cls:= .type "list",data:= .seq its.toArray n}) (c:f {cls:= .type "list",data:= .seq its.toArray n}={cls:= .type "list",data:= .seq its'.toArray a}) (r:zQ ys its') (hz:ys.length<=sizeLine) (t:Nat):
  Inv X pins σ (upd H p (.lst ys)) {s with heap:=s.heap.update p f,toks:=t}:=by
 have e:(s.heap.update p f).get? p=some {cls:= .type "list",data:= .seq its'.toArray a}:=by
  rw [w0X f i (by rw [c] <;> rfl),c]
 refine I.write (x:=p) (e:=p) (by rw [h];trivial) (.inl rfl) (λb u d q=>(Q9 _ _ (w1p d)).trans q) ⟨_,e⟩ ?_;exact⟨hz,its',a,r,e⟩
def zfc:V->V->V->Hp->(Hp->Prop)->Prop:=λo i v H Q=>∃p xs k j,o= .ref p/\i= .int k/\H p=some (.lst xs)/\ixN xs.length k=some j/\Q (upd H p (.lst (xs.set j v)))
theorem set_list:zez X zfc:=by
 intro pins s σ H o i v y z u Q I f w x h;obtain⟨p,xs,k,j,rfl,rfl,hp,l,q⟩:=h;cases f;obtain⟨t,rfl⟩:=w;obtain⟨its,n,r,a,hz⟩:=I.lst hp;obtain⟨h1,h2,e,c⟩:=z8h l;have hl:=r.length;have hn:=z2s;have d:Inv X pins σ (upd H p (.lst (xs.set j v))) {s with heap:=s.heap.update p (Obj.mapSeq (·.setIfInBounds j u))}:=
  I.lstUpd hp a (z7y its n j u) (r.set x j) (by rw [List.length_set];exact hz) s.toks
 by_cases h0:0<=k
 ·have b:k.toNat=j:=by
   rw [seqIndex_of h0 c]at h1;exact Option.some.inj h1
  exact PySem.W.ki_setAt a h0 (by lia) (by rw [wB,<-hl];exact c) (by rw [b];exact⟨_,d,q⟩)
 ·have b:(k + (its.toArray.size:Int)).toNat=j:=by
   rw [seqIndex_neg (by lia) e]at h1;rw [wB,<-hl];exact Option.some.inj h1
  exact PySem.W.ki_setBack a (by lia) (by rw [wB,<-hl];exact e) (by lia) (by rw [b];exact⟨_,d,q⟩)
theorem z5N(lo hi:Option Int)(n:Nat):(sliceBounds lo hi none n).1=((HT.sIx n 0 lo:Nat):Int)/\(sliceBounds lo hi none n).2.1=((HT.sIx n n hi:Nat):Int)/\(sliceBounds lo hi none n).2.2=1:=by
 refine⟨?_,?_,rfl⟩
 ·cases lo with
  | none=>simp [sliceBounds,HT.sIx]
  | some i=>
   simp only [sliceBounds,HT.sIx,Option.getD_none,show(1:Int) > 0 by decide,w0S];by_cases h:i < 0
   ·simp only [h,w0S] <;> lia
   ·simp only [h,w0B] <;> lia
 ·cases hi with
  | none=>simp [sliceBounds,HT.sIx]
  | some i=>
   simp only [sliceBounds,HT.sIx,Option.getD_none,show(1:Int) > 0 by decide,w0S];by_cases h:i < 0
   ·simp only [h,w0S] <;> lia
   ·simp only [h,w0B] <;> lia
theorem z4V(its:List Value)(lo hi:Option Int):slicePick its.toArray lo hi none=((its.drop (HT.sIx its.length 0 lo)).take (HT.sIx its.length its.length hi - HT.sIx its.length 0 lo)).toArray:=by
 obtain⟨h1,h2,a⟩:=z5N lo hi its.toArray.size;unfold slicePick;rw [h1,h2,a];simp only [sliceRange_one,pick_run,wB] <;> rfl
def zfC(K:W.Frag):V->Option Int->Option Int->Hp->VK->Prop:=λx lo hi H Q=>∃a xs,x= .ref a/\SqL K H a xs/\∀p,H p=none->Q (.ref p) (upd H p (.lst (z0H xs lo hi)))
theorem kz:SlR X (zfC X.K):=by
 intro pins s σ H x v j i lo hi sl Q I c hs pl d h;obtain⟨a,xs,rfl,e,q⟩:=h;cases c;obtain⟨its,r,ht,hz⟩:=I.list e;have hlen:=r.length;refine⟨"list",_,slot_list_getitem.lookup,ht.isList.typeIs,?_⟩;refine wpAny_getItem_list_slice ht.isList hs pl d .none (by simp) ?_ (by rw [wB] <;> lia);rw [z4V,<-hlen];refine⟨.ref s.heap.objs.size,_,I.laid (t':=s.toks) (o:= .lst (z0H xs lo hi)) (λb f q=>wo _ q) (wu _) ?_,rfl,q _ (I.hok.fresh (wu _))⟩;exact⟨wW (z3C xs lo hi) hz,_,0,(r.drop (HT.sIx xs.length 0 lo)).take (HT.sIx xs.length xs.length hi - HT.sIx xs.length 0 lo),qi _ rfl⟩
noncomputable def yY:V->Bool
 | .non=>true
 | .bl _=>true
 | .int _=>true
 | .str _=>true
 | _=>false
noncomputable def eqV:V->V->Bool
 | .non,.non=>true
 | .bl a,.bl b=>a == b
 | .bl a,.int b=>(if a then 1 else 0) == b
 | .int a,.bl b=>a == (if b then 1 else 0)
 | .int a,.int b=>a == b
 | .str a,.str b=>a == b
 | _,_=>false
theorem z7I{v:Value}(d:RelV y u)(c:RelV x v)(f:yY y=true)(e:yY x=true):SeqAt.EqAt A s u v (eqV y x):=by
 cases y with
 | non=>
  cases d;cases x with
  | non=>cases c;exact SeqAt.EqAt.same _
  | bl b=>cases c;exact SeqAt.EqAt.none_bool b
  | int b=>obtain⟨t,rfl⟩:=c;exact SeqAt.EqAt.none_int b t
  | str b=>obtain⟨t,rfl⟩:=c;exact SeqAt.EqAt.none_str b t
  | _=>exact absurd (show false=true from e) wT
 | bl a=>
  cases d;cases x with
  | non=>cases c;exact SeqAt.EqAt.bool_none a
  | bl b=>cases c;exact SeqAt.EqAt.bool_bool a b
  | int b=>obtain⟨t,rfl⟩:=c;exact SeqAt.EqAt.bool_int a b t
  | str b=>obtain⟨t,rfl⟩:=c;exact SeqAt.EqAt.bool_str a b t
  | _=>exact absurd (show false=true from e) wT
 | int a=>
  obtain⟨t',rfl⟩:=d;cases x with
  | non=>cases c;exact SeqAt.EqAt.int_none a t'
  | bl b=>cases c;exact SeqAt.EqAt.int_bool a t' b
  | int b=>obtain⟨t,rfl⟩:=c;exact SeqAt.EqAt.int_int a t' b t
  | str b=>obtain⟨t,rfl⟩:=c;exact SeqAt.EqAt.int_str a t' b t
  | _=>exact absurd (show false=true from e) wT
 | str a=>
  obtain⟨t',rfl⟩:=d;cases x with
  | non=>cases c;exact SeqAt.EqAt.str_none a t'
  | bl b=>cases c;exact SeqAt.EqAt.str_bool a t' b
  | int b=>obtain⟨t,rfl⟩:=c;exact SeqAt.EqAt.str_int a t' b t
  | str b=>obtain⟨t,rfl⟩:=c;exact SeqAt.EqAt.str_str a t' b t
  | _=>exact absurd (show false=true from e) wT
 | _=>exact absurd (show false=true from f) wT
noncomputable def eqU(x:V)(u:Value):Bool:=match u with
 | .none=>eqV .non x
 | .bool b=>eqV (.bl b) x
 | .int i _=>eqV (.int i) x
 | .str z _=>eqV (.str z) x
 | _=>false
theorem z5V(r:RelV y u)(f:yY y=true):eqU x u=eqV y x:=by
 cases y with
 | non=>cases r;rfl
 | bl b=>cases r;rfl
 | int i=>obtain⟨t,rfl⟩:=r;rfl
 | str z=>obtain⟨t,rfl⟩:=r;rfl
 | _=>exact absurd (show false=true from f) wT
theorem z30{x:V}:∀{xs:List V} {us:List Value},zQ xs us->xs.all yY=true->us.any (eqU x)=xs.any λy=>eqV y x
 | _,_,.nil,_=>rfl
 | y :: xs,u :: us,.cons r t,f=>by
  rw [List.all_cons,Q2]at f;rw [w1r,w1r,z5V r f.1,z30 t f.2]
theorem z16{A:Around}{s:Shared}{x:V}{v:Value}(a:RelV x v)(b:yY x=true):∀{xs:List V} {us:List Value},zQ xs us->xs.all yY=true->∀u∈us,SeqAt.EqAt A s u v (eqU x u)
 | _,_,.nil,_=>λu hu=>by cases hu
 | y :: xs,u :: us,.cons r t,f=>λc hu=>by
  rw [List.all_cons,Q2]at f;rcases wH.mp hu with rfl | hu
  ·rw [z5V r f.1];exact z7I r a f.1 b
  ·exact z16 a b t f.2 c hu
noncomputable def inV(x:V)(xs:List V):Bool:=xs.any λy=>eqV y x
def rIn(K:W.Frag)(a:Bool):R2:=λx y H Q=>∃p xs,y= .ref p/\(SqL K H p xs\/SqT K H p xs)/\yY x=true/\xs.all yY=true/\Q (.bl (if a then !inV x xs else inV x xs)) H
theorem yk:OpR X (compareOp .In) (rIn X.K false):=by
 intro pins s σ H x y v u Q I b d h;obtain⟨p,xs,rfl,hq,c,fs,q⟩:=h;cases d;rcases hq with hq | hq
 ·obtain⟨its,r,pl,hz⟩:=I.list hq;refine SeqAt.in_listAt (eqU x) pl.isList (λw a=>z16 b c r fs w (by simpa using a)) ⟨.bl _,H,I,rfl,?_⟩;rw [show its.toArray.any (eqU x)=its.any (eqU x) by simp,z30 r fs];exact q
 ·obtain⟨its,r,pl,hz⟩:=I.tuple hq;refine SeqAt.in_tupleAt (eqU x) pl (λw a=>z16 b c r fs w (by simpa using a)) ⟨.bl _,H,I,rfl,?_⟩;rw [show its.toArray.any (eqU x)=its.any (eqU x) by simp,z30 r fs];exact q
theorem yr:OpR X (compareOp .NotIn) (rIn X.K true):=by
 intro pins s σ H x y v u Q I b d h;obtain⟨p,xs,rfl,hq,c,fs,q⟩:=h;cases d;rcases hq with hq | hq
 ·obtain⟨its,r,pl,hz⟩:=I.list hq;refine SeqAt.notIn_listAt (eqU x) pl.isList (λw a=>z16 b c r fs w (by simpa using a)) ⟨.bl _,H,I,rfl,?_⟩;rw [show its.toArray.any (eqU x)=its.any (eqU x) by simp,z30 r fs];exact q
 ·obtain⟨its,r,pl,hz⟩:=I.tuple hq;refine SeqAt.notIn_tupleAt (eqU x) pl (λw a=>z16 b c r fs w (by simpa using a)) ⟨.bl _,H,I,rfl,?_⟩;rw [show its.toArray.any (eqU x)=its.any (eqU x) by simp,z30 r fs];exact q
theorem z5L:kj X (.builtin "len") (λxs H Q=>∃p ys,xs= [.ref p]/\(SqL X.K H p ys\/SqT X.K H p ys)/\Q (.int ys.length) H):=by
 intro pins s σ H xs us Q I r h;obtain⟨p,ys,rfl,hq,q⟩:=h;obtain⟨u,rfl,a⟩:=vals1 r;cases a;have hn:=z2s;rcases hq with hq | hq
 ·obtain⟨its,r',pl,hz⟩:=I.list hq;have hlen:=r'.length;exact Calls.call_len_list pl.isList (by simp only [wB] <;> lia) ⟨.int ys.length,H,I.tok _,⟨s.toks + 1,by rw [wB,hlen]⟩,q⟩
 ·obtain⟨its,r',pl,hz⟩:=I.tuple hq;have hlen:=r'.length;exact len_tuple pl (by simp only [wB] <;> lia) ⟨.int ys.length,H,I.tok _,⟨s.toks + 1,by rw [wB,hlen]⟩,q⟩
theorem yo:kj X (.type "list") (λxs H Q=>∃p ys,xs= [.ref p]/\(SqL X.K H p ys\/SqT X.K H p ys)/\∀l,H l=none->Q (.ref l) (upd H l (.lst ys))):=by
 intro pins s σ H xs us Q I r h;obtain⟨p,ys,rfl,hq,q⟩:=h;obtain⟨u,rfl,c⟩:=vals1 r;cases c;have fin:∀(its:List Value),zQ ys its->ys.length<=sizeLine->∀(h':Heap) (c':Nat),(∀b o',s.heap.get? b=some o'->h'.get? b=some o')->
   h'.get? s.heap.objs.size=some {cls:= .type "list",dict:=none,data:= .seq its.toArray c',slots:= #[]}->EP X pins σ Q (.ref s.heap.objs.size) {s with heap:=h'}:=λits r' hz h' c' kp e=>
  ⟨.ref s.heap.objs.size,_,I.laid (t':=s.toks) kp (wu _) (show jm X.prog X.w _ h' _ (.lst ys)from⟨hz,its,c',r',e⟩),rfl,q _ (I.hok.fresh (wu _))⟩
 rcases hq with hq | hq
 ·obtain⟨its,r',pl,hz⟩:=I.list hq;have hlen:=r'.length;obtain⟨o,a,hc,n,hd⟩:=pl.isList;exact call_list_seq p (.inl rfl) a hc hd (λh' c' kp e=>fin its r' hz h' c' kp e) (by simp only [wB] <;> lia)
 ·obtain⟨its,r',pl,hz⟩:=I.tuple hq;have hlen:=r'.length;obtain⟨o,a,hc,n,hd⟩:=pl;exact call_list_seq p (.inr rfl) a hc hd (λh' c' kp e=>fin its r' hz h' c' kp e) (by simp only [wB] <;> lia)
theorem z0T:kj X (.type "tuple") (λxs H Q=>∃p ys,xs= [.ref p]/\((SqL X.K H p ys/\∀l,H l=none->Q (.ref l) (upd H l (.tup ys)))\/(SqT X.K H p ys/\Q (.ref p) H))):=by
 intro pins s σ H xs us Q I r h;obtain⟨p,ys,rfl,h⟩:=h;obtain⟨u,rfl,c⟩:=vals1 r;cases c;rcases h with⟨hq,q⟩ | ⟨hq,q⟩
 ·obtain⟨its,r',pl,hz⟩:=I.list hq;have hlen:=r'.length;refine call_tuple_list pl.isList (λh' kp=> ?_) (by simp only [wB] <;> lia);have a:Inv X pins σ H {s with heap:=h'}:=I.kept (t':=s.toks) kp;have d:Inv X pins σ (upd H h'.objs.size (.tup ys)) {s with heap:=h'.push {cls:= .type "tuple",data:= .seq its.toArray}}:=
   a.laid (t':=s.toks) (λb o e=>wo _ e) (wu _) (show jm X.prog X.w _ _ _ (.tup ys)from⟨hz,its,r',IsTup.new _ _⟩)
  exact⟨.ref h'.objs.size,_,d,rfl,q _ (a.hok.fresh (wu _))⟩
 ·obtain⟨its,r',pl,hz⟩:=I.tuple hq;exact call_tuple_same pl ⟨.ref p,H,I,rfl,q⟩
def tyV(K:W.Frag)(T:String)(x:V)(H:Hp):Prop:=match x with
 | .str _=>T="str"
 | .int _=>T="int"
 | .ref p=>(T="list"/\∃xs,SqL K H p xs)\/(T="tuple"/\∃o,K.lookup p=some o/\o.cls= .type "tuple"/\o.dict=none)\/
   (T="dict"/\((∃kvs,H p=some (.dK kvs))\/∃kvs,H p=some (.dT kvs)))\/(T="set"/\∃S n,H p=some (.set S n))
 | _=>False
theorem zbB{σ:St}{T:String}{v:Value}(I:Inv X pins σ H s)(r:RelV x v)(ty:tyV X.K T x H):
  s.TypeIs v T/\∀a,v= .ref a->∃d,s.heap.get? a=some d/\d.dict=none:=by
 cases x with
 | str z=>
  obtain⟨t,rfl⟩:=r;cases (show T="str" from ty);exact⟨typeIs_str s z t,λ_ e=>nomatch e⟩
 | int i=>
  obtain⟨t,rfl⟩:=r;cases (show T="int" from ty);exact⟨typeIs_int s i t,λ_ e=>nomatch e⟩
 | ref p=>
  cases r;rcases ty with⟨rfl,xs,hq⟩ | ⟨rfl,o,hk,hc,hd⟩ | ⟨rfl,hk⟩ | ⟨rfl,S,n,hk⟩
  ·obtain⟨its,_,pl,_⟩:=I.list hq;refine⟨pl.isList.typeIs,λa e=> ?_⟩;cases e;obtain⟨o,n,e,c,hd,_⟩:=pl;exact⟨o,e,hd⟩
  ·refine⟨⟨o,I.kIn p o hk,hc⟩,λa e=> ?_⟩;cases e;exact⟨o,I.kIn _ o hk,hd⟩
  ·have z:∃o,s.heap.get? p=some o/\o.ExactDict:=by
    rcases hk with⟨kvs,hk⟩ | ⟨kvs,hk⟩
    ·obtain⟨_,_,_,_,o,_,_,e,ex,_⟩:=I.hok p _ hk;exact⟨o,e,ex⟩
    ·obtain⟨_,_,_,_,o,_,_,e,ex,_⟩:=I.hok p _ hk;exact⟨o,e,ex⟩
   obtain⟨o,e,ex⟩:=z;refine⟨⟨o,e,ex.1⟩,λa b=> ?_⟩;cases b;exact⟨o,e,ex.2.1⟩
  ·obtain⟨o,_,_,_,e,ex,_⟩:=I.hok p _ hk;refine⟨⟨o,e,ex.1⟩,λa b=> ?_⟩;cases b;exact⟨o,e,ex.2.1⟩
 | _=>exact False.elim ty
def zfk(K:W.Frag)(T:String)(r:V->List V->Hp->VK->Prop)(to:TE):TE:=λσ H Q=>to σ H λx H1=>tyV K T x H1/\r x [] H1 Q
def tBM(K:W.Frag)(T:String)(r:V->List V->Hp->VK->Prop)(to:TE)(t:TA):TE:=λσ H Q=>to σ H λx H1=>tyV K T x H1/\t σ H1 λxs H2=>r x xs H2 Q
variable{o:Expr}{es:List Expr}{to:TE}{t:TA}{name:Str}{apos af:Pos}{T id:String}{r:V->List V->Hp->VK->Prop}
theorem z3d(c:PlainAttrs T)(slot:Slot T name id)(d:typeOf (.builtin id)=pure (.type "method_descriptor"))(hm:MtR X id r)(e:PE X o to)
  (f:attributeBase o name X.env (eval o X.env)=eval o X.env:=by rfl) (b:(apos.endLine == af.line)=true:=by rfl):PE X (.Call (.Attribute o name apos) [] [] af) (zfk X.K T r to):=by
 intro pins s σ H Q I h;refine wpAny_Call_method0_late f b (thn (e pins s σ H _ I h) ?_);rintro v s1 ⟨x,H1,a,r1,ty,q1⟩;obtain⟨h1,h2⟩:=zbB a r1 ty;exact⟨T,id,c,slot,d,h1,h2,Calls.callWith_builtin rfl (PySem.evalArgs_none (hm pins s1 σ H1 x [] v [] Q a r1 .nil q1))⟩
theorem z1z(i:PlainAttrs T)(slot:Slot T name id)(l:typeOf (.builtin id)=pure (.type "method_descriptor"))(hm:MtR X id r)(n:PE X o to)(ha:PA X (e :: es) t)
  (q:attributeBase o name X.env (eval o X.env)=eval o X.env:=by rfl)
  (d:((backTo af (starEach (e :: es) X.env)).all (λx=> !x.1) && (backToKw af (keywordEach [] X.env)).all (λx=>x.1.isSome)
   && decide ((e :: es).length + ([]:List Keyword).length + (if([]:List Keyword).isEmpty then 0 else 1) < 30))=true:=by rfl)
  (f:(apos.endLine == af.line)=true:=by rfl) (hs:starEach (e :: es) X.env=(false,eval e X.env) :: starEach es X.env:=by rfl) (j:(backTo af (starEach es X.env)).any (·.1)=false:=by rfl):
  PE X (.Call (.Attribute o name apos) (e :: es) [] af) (tBM X.K T r to t):=by
 intro pins s σ H Q I h;refine wpAny_Call_method_late q d f rfl (thn (n pins s σ H _ I h) ?_);rintro v s1 ⟨x,H1,a,r1,ty,q1⟩;obtain⟨h1,h2⟩:=zbB a r1 ty;refine⟨T,id,i,slot,l,h1,h2,?_⟩;have b:=ha af pins s1 σ H1 _ a q1;rw [hs]at b ⊢;refine Calls.callWith_builtin (by show(false || (backTo af (starEach es X.env)).any (·.1))=false;rw [j] <;> rfl) (Calls.evalArgs_plain ?_);exact thn b λus s2 ⟨vs,H2,p,r2,c⟩=>hm pins s2 σ H2 x vs v us Q p r1 r2 c
end
def MtM(X:Cx)(id:String)(r:V->List V->Hp->VK->Prop):Prop:=
 ∀(pins:List (Addr×Obj)) (s:Shared) (σ:St) (H:Hp) (x:V) (xs:List V) (v:Value) (us:List Value) (Q:VK),Inv X pins σ H s->RelV x v->zQ xs us->r x xs H Q->
  wpAny (model X.prog X.w) X.A (call (.builtin id) (v :: us)) (EP X pins σ Q) X.xe s
theorem zQ.one(h:zQ [x] us):∃u,us= [u]/\RelV x u:=by
 rcases h with _ | ⟨r,t⟩;cases t;exact⟨_,rfl,r⟩
def zQ.zero:∀{us:List Value},zQ [] us->us= []
 | _,.nil=>rfl
theorem zQ.dropLast{xs:List V}(h:zQ xs us):zQ xs.dropLast us.dropLast:=by
 induction h with
 | nil=>exact .nil
 | cons r t a=>
  cases t with
  | nil=>exact .nil
  | cons q t'=>exact .cons r a
theorem z7V(l:List α):l.eraseIdx (l.length - 1)=l.dropLast:=by
 induction l with
 | nil=>rfl
 | cons a r c=>
  cases r with
  | nil=>rfl
  | cons b r=>
   have e:(a :: b :: r).length - 1=((b :: r).length - 1) + 1:=by
    have h1:(a :: b :: r).length=r.length + 2:=rfl;have h2:(b :: r).length=r.length + 1:=rfl
    lia
   rw [e,List.eraseIdx_cons_succ,c]
   all_goals rfl
variable{t':Nat}
section
variable{σ:St}{l b:Addr}{xs ys zs:List V}
theorem Inv.lset{its':List Value}{f:Array Value->Array Value}(I:Inv X pins σ H s)(d:H l=some (.lst xs))
  (e:s.heap.get? l=some {cls:= .type "list",data:= .seq its.toArray n}) (b:f its.toArray=its'.toArray) (c:zQ ys its') (hz:ys.length<=sizeLine):
  Inv X pins σ (upd H l (.lst ys)) {s with heap:=s.heap.update l (Obj.mapSeq f),toks:=t'}:=by
 have q:=PySem.IsL.update e f;rw [b]at q;refine I.write (x:=l) (e:=l) (by rw [d];exact trivial) (.inl rfl) (λb' u a h=>(Q9 s.heap (Obj.mapSeq f) (w1p a)).trans h) ⟨_,q⟩ ?_;exact⟨hz,its',_,c,q⟩
def Inv.lnew(I:Inv X pins σ H s)(a:zQ ys its)(hz:ys.length<=sizeLine):
  Inv X pins σ (upd H s.heap.objs.size (.lst ys)) {s with heap:=s.heap.push {cls:= .type "list",data:= .seq its.toArray},toks:=t'}:=
 I.laid (λ_ _ q=>wo _ q) (wu _) ⟨hz,its,0,a,qi _ rfl⟩
def Inv.fresh(I:Inv X pins σ H s):H s.heap.objs.size=none:=I.hok.fresh (wu _)
theorem Inv.lstM(I:Inv X pins σ H s)(a:H l=some (.lst xs)):xs.length<=sizeLine/\∃(its:List Value) (n:Nat),zQ xs its/\xs.length=its.length/\s.heap.get? l=some {cls:= .type "list",data:= .seq its.toArray n}:=by
 obtain⟨z,its,n,r,e⟩:=I.hok l _ a;exact⟨z,its,n,r,r.length,e⟩
theorem zaz(h:n<=sizeLine):Builtin.List.listTooLong n=false:=by
 unfold Builtin.List.listTooLong;exact wL (by lia)
end
def z92:V->List V->Hp->VK->Prop:=λx vs H Q=>∃l xs y,x= .ref l/\vs= [y]/\H l=some (.lst xs)/\xs.length < sizeLine/\Q .non (upd H l (.lst (xs ++ [y])))
theorem z9p:MtM X "list.append" z92:=by
 intro pins s σ H x vs v us Q I b d h;obtain⟨l,xs,y,rfl,rfl,a,hz,q⟩:=h;cases b;obtain⟨u,rfl,c⟩:=d.one;obtain⟨z,its,n,r,hl,e⟩:=I.lstM a;refine call_meets F.slot_list_append ⟨_,e,rfl⟩ F.entry_list_append (F.args_list_append_2 _ _) (PySem.list_append l its.toArray n u (by rw [wB];lia)) ⟨e,?_⟩;refine⟨.non,_,I.lset (its':=its ++ [u]) a e (by simp) (r.append (.cons c .nil)) ?_,rfl,q⟩;rw [wg,wJ]
 lia
def zbZ:V->List V->Hp->VK->Prop:=λx vs H Q=>∃l b xs zs,x= .ref l/\vs= [.ref b]/\H l=some (.lst xs)/\H b=some (.lst zs)/\xs.length + zs.length<=sizeLine/\Q .non (upd H l (.lst (xs ++ zs)))
theorem z9O:MtM X "list.extend" zbZ:=by
 intro pins s σ H x vs v us Q I i p h;obtain⟨l,b,xs,zs,rfl,rfl,c,o,hz,q⟩:=h;cases i;obtain⟨u,rfl,j⟩:=p.one;cases j;obtain⟨z,its,n,r,hl,e⟩:=I.lstM c;obtain⟨w,a,t,r2,y,f⟩:=I.lstM o;have hsz:its.toArray.size + a.toArray.size<=sizeLine:=by rw [wB,wB];lia
 have d:¬(!its.toArray.isEmpty && Builtin.List.listTooLong (its.toArray.size + a.toArray.size))=true:=by
  rw [zaz hsz,Bool.and_false];exact wT
 refine call_meets F.slot_list_extend ⟨_,e,rfl⟩ F.entry_list_extend (F.args_list_extend_2 _ _)
  (AutoSeq1.list_extend_list_list_0 l its.toArray n b a.toArray t d (by rw [wB];lia) (by lia)) ⟨e,f,?_⟩
 refine⟨.non,_,I.lset (its':=its ++ a) c e (by simp) (r.append r2) ?_,rfl,q⟩;rw [wg]
 lia
def zfr:V->List V->Hp->VK->Prop:=λx vs H Q=>∃l xs y,x= .ref l/\vs= []/\H l=some (.lst xs)/\xs[xs.length - 1]? =some y/\Q y (upd H l (.lst xs.dropLast))
theorem z3p:MtM X "list.pop" zfr:=by
 intro pins s σ H x vs v us Q I d o h;obtain⟨l,xs,y,rfl,rfl,a,b,q⟩:=h;cases d;have j:=o.zero;subst j;obtain⟨z,its,n,r,hl,e⟩:=I.lstM a;obtain⟨u,c,f⟩:=r.get b;have i:its.toArray[its.toArray.size - 1]? =some u:=by
  show its.toArray[its.length - 1]? =some u
  rw [<-Array.getElem?_toList,<-hl];exact c
 refine call_meets F.slot_list_pop ⟨_,e,rfl⟩ F.entry_list_pop (F.args_list_pop_1 _) (MeetsSeq.list_pop_last l its.toArray n u i (by rw [wB];lia)) ⟨e,?_⟩;refine⟨y,_,I.lset (its':=its.dropLast) a e ?_ r.dropLast ?_,f,q⟩
 ·show its.toArray.eraseIdxIfInBounds (its.toArray.size - 1)=its.dropLast.toArray
  rw [wB,List.eraseIdxIfInBounds_toArray,z7V]
 ·rw [List.length_dropLast]
  lia
def zfE:R2:=λx y H Q=>∃l b xs zs,x= .ref l/\y= .ref b/\H l=some (.lst xs)/\H b=some (.lst zs)/\xs.length + zs.length<=sizeLine/\∀p,H p=none->Q (.ref p) (upd H p (.lst (xs ++ zs)))
theorem kH:OpR X (binaryOp .Add) zfE:=by
 intro pins s σ H x y v u Q I i d h;obtain⟨l,b,xs,zs,rfl,rfl,c,j,hz,q⟩:=h;cases i;cases d;obtain⟨z,its,n,r,hl,e⟩:=I.lstM c;obtain⟨p,a,w,r2,t,f⟩:=I.lstM j;refine PySem.P.add_list e f ?_ (by rw [wB,wB];lia);have o:its.toArray ++ a.toArray=(its ++ a).toArray:=by simp
 rw [o];exact⟨.ref _,_,I.lnew (t':=s.toks) (r.append r2) (by rw [wg];lia),rfl,q _ I.fresh⟩
variable{o:Option V}
section
variable{κ:Type}[DecidableEq κ]
noncomputable def z1E(kvs:List (κ×V))(k:κ):Option V:=(kvs.find? λkv=>decide (kv.1=k)).map (·.2)
noncomputable def putK(kvs:List (κ×V))(k:κ)(v:V):List (κ×V):=
 if(kvs.any λkv=>decide (kv.1=k))=true then kvs.map (λkv=>if kv.1=k then(kv.1,v)else kv)else kvs ++ [(k,v)]
variable{r:List (κ×V)}
theorem z4x{p:κ×V}{k:κ}(e:p.1=k):z1E (p :: r) k=some p.2:=by simp [z1E,w0Y,e]
theorem z4g{p:κ×V}{k:κ}(e:¬p.1=k):z1E (p :: r) k=z1E r k:=by simp [z1E,w0Y,e]
theorem z17(k:κ):∀kvs:List (κ×V),(kvs.any λkv=>decide (kv.1=k))=(z1E kvs k).isSome
 | []=>rfl
 | p :: r=>by
  rw [w1r];by_cases e:p.1=k
  ·simp only [z4x e,wS e,Bool.true_or,Option.isSome_some]
  ·rw [z4g e,wL e,Bool.false_or];exact z17 k r
theorem yV(kvs:List (κ×V))(k:κ)(v:V):(putK kvs k v).length<=kvs.length + 1:=by
 unfold putK;split
 ·rw [w9];lia
 ·rw [wg,wP,Qo];lia
variable{kvs:List (κ×V)}
theorem zaw{k:κ}(v:V)(h:z1E kvs k=none):putK kvs k v=kvs ++ [(k,v)]:=by
 unfold putK;rw [z17,h];exact wU (by decide)
theorem z2g.isSome_eq{u:Option Value}(r:z2g o u):o.isSome=u.isSome:=by
 cases o with
 | none=>cases u with
  | none=>rfl
  | some _=>exact(show False from r).elim
 | some _=>cases u with
  | none=>exact(show False from r).elim
  | some _=>rfl
theorem z2g.getD{u:Option Value}{d:V}{d':Value}(r:z2g o u)(a:RelV d d'):RelV (o.getD d) (u.getD d'):=by
 cases o with
 | none=>cases u with
  | none=>exact a
  | some _=>exact(show False from r).elim
 | some _=>cases u with
  | none=>exact(show False from r).elim
  | some _=>exact r
variable{vs:List (κ×Value)}
theorem KV.val(r:KV kvs vs)(k:κ):z2g (z1E kvs k) (valueAt vs k):=by
 unfold KV at r
 induction r with
 | nil=>exact w0s
 | @cons p q ps qs h t c=>
  obtain⟨h1,h2⟩:=h;by_cases e:p.1=k
  ·have a:q.1=k:=h1.symm.trans e;have b:valueAt (q :: qs) k=some q.2:=by simp [valueAt,w0Y,a]
   rw [z4x e,b];exact h2
  ·have a:¬q.1=k:=λz=>e (h1.trans z)
   have b:valueAt (q :: qs) k=valueAt qs k:=by simp [valueAt,w0Y,a]
   rw [z4g e,b];exact c
theorem KV.any(r:KV kvs vs)(k:κ):(kvs.any λkv=>decide (kv.1=k))=vs.any λkv=>decide (kv.1=k):=by
 unfold KV at r
 induction r with
 | nil=>rfl
 | cons h t a=>rw [w1r,w1r,a,h.1]
theorem KV.repl(r:KV kvs vs)(k:κ)(b:RelV y u):
  KV (kvs.map λkv=>if kv.1=k then(kv.1,y)else kv) (vs.map λkv=>if kv.1=k then(kv.1,u)else kv):=by
 unfold KV at r ⊢
 induction r with
 | nil=>exact .nil
 | @cons p q ps qs h t a=>
  rw [qK,qK];refine .cons ?_ a;obtain⟨h1,h2⟩:=h;by_cases e:p.1=k
  ·rw [wY e,wY (h1.symm.trans e)];exact⟨h1,b⟩
  ·rw [wU e,wU (λz=>e (h1.trans z))];exact⟨h1,h2⟩
theorem KV.put(r:KV kvs vs)(k:κ)(a:RelV y u):KV (putK kvs k y) (stored vs k u):=by
 unfold putK stored;rw [r.any k];by_cases e:(vs.any λkv=>decide (kv.1=k))=true
 ·rw [wY e,wY e];exact r.repl k a
 ·rw [wU e,wU e];exact Paired.snoc r ⟨rfl,a⟩
theorem KV.keys(r:KV kvs vs):kvs.map (·.1)=vs.map (·.1):=by
 unfold KV at r
 induction r with
 | nil=>rfl
 | cons h t a=>rw [qK,qK,a,h.1]
theorem KV.length(r:KV kvs vs):kvs.length=vs.length:=Paired.length r
end
variable{P:Program}{w:World}
theorem z8A{k:Key}(r:RelV (kV k) u):(jE P w).is k u=true:=by
 cases k with
 | inl i=>obtain⟨t,e⟩:=(show∃t,u=Value.int i t from r);subst e;exact z7f P w i t
 | inr x=>obtain⟨t,e⟩:=(show∃t,u=Value.str x t from r);subst e;exact z6Q P w x t
theorem z5d{P:Program}{w:World}:∀{ks:List Key} {us:List Value},zQ (ks.map kV) us->ItemsAre (jE P w) ks us
 | [],_,r=>by rw [w0W]at r;cases r;exact .nil
 | k :: ks,_,r=>by
  rw [qK]at r;cases r with
  | cons h t=>exact .cons (z8A h) (z5d t)
abbrev KT(H:Hp):List (List Key×V)->List (List Key×Addr×Value)->Prop:=Paired λp q=>p.1=q.1/\H q.2.1=some (.tup (p.1.map kV))/\RelV p.2 q.2.2
variable{xs:List (List Key×Addr×Value)}{kvs:List (List Key×V)}
theorem KT.val(r:KT H kvs xs)(k:List Key):z2g (z1E kvs k) ((atKey xs k).map (·.2)):=by
 induction r with
 | nil=>exact w0s
 | @cons p q ps qs h t c=>
  obtain⟨h1,_,h2⟩:=h;by_cases e:p.1=k
  ·have a:q.1=k:=h1.symm.trans e;have b:atKey (q :: qs) k=some q.2:=by simp [atKey,w0Y,a]
   rw [z4x e,b];exact h2
  ·have a:¬q.1=k:=λz=>e (h1.trans z)
   have b:atKey (q :: qs) k=atKey qs k:=by simp [atKey,w0Y,a]
   rw [z4g e,b];exact c
theorem KT.repl(r:KT H kvs xs)(k:List Key)(b:RelV y u):
  KT H (kvs.map λkv=>if kv.1=k then(kv.1,y)else kv) (xs.map (putAt k u)):=by
 induction r with
 | nil=>exact .nil
 | @cons p q ps qs h t a=>
  rw [qK,qK];refine .cons ?_ a;obtain⟨h1,h2,c⟩:=h;unfold putAt;by_cases e:p.1=k
  ·rw [wY e,wY (h1.symm.trans e)];exact⟨h1,h2,b⟩
  ·rw [wU e,wU (λz=>e (h1.trans z))];exact⟨h1,h2,c⟩
theorem KT.put(r:KT H kvs xs)(k:List Key){b:Addr}(c:H b=some (.tup (k.map kV)))(a:RelV y u):
  KT H (putK kvs k y) (storedH xs k b u):=by
 have e:(kvs.any λkv=>decide (kv.1=k))=(atKey xs k).isSome:=by
  rw [z17,(r.val k).isSome_eq,Option.isSome_map]
 unfold putK storedH;rw [e];by_cases q:(atKey xs k).isSome=true
 ·rw [wY q,wY q];exact r.repl k a
 ·rw [wU q,wU q];exact Paired.snoc r ⟨rfl,c,a⟩
variable{H':Hp}
def KT.keeps(r:KT H kvs xs)(ht:∀b ys,H b=some (.tup ys)->H' b=some (.tup ys)):KT H' kvs xs:=
 Paired.mapP r λ_ _ z=>⟨z.1,ht _ _ z.2.1,z.2.2⟩
variable{a:Addr}
section
variable{h:Heap}
def zd4{u:HO}(ok:HOk P w H h)(e:Rd H a u):jm P w H h a u:=e.ok ok
def zam{kvs:List (Key×V)}(ok:HOk P w H h)(e:Rd H a (.dK kvs)):kvs.length<=sizeLine/\(a == sysModules)=false/\∃vs,KV kvs vs/\h.DictOf (jE P w) a vs:=
 show jm P w H h a (.dK kvs)from zd4 ok e
def zd0{kvs:List (Key×V)}(ok:HOk P w H h)(e:H a=some (.dK kvs)):kvs.length<=sizeLine/\(a == sysModules)=false/\∃vs,KV kvs vs/\h.DictOf (jE P w) a vs:=zam ok (.inl e)
theorem z7D{ks:List Key}(ok:HOk P w H h)(e:H a=some (.tup (ks.map kV))):(tupleKind (jE P w)).is h ks a:=by
 obtain⟨_,its,r,o,h1,h2,n,b⟩:=(show jm P w H h a (.tup (ks.map kV))from ok a _ e);exact⟨o,its.toArray,n,h1,h2,b,by simpa using z5d r⟩
theorem zbG(ok:HOk P w H h)(e:Rd H a (.dT kvs)):kvs.length<=sizeLine/\(a == sysModules)=false/\
  ∃xs,KT H kvs xs/\h.DictOfH (tupleKind (jE P w)) a xs:=by
 obtain⟨z,y,xs,r,o,es,ep,h1,h2,d,c,f⟩:=(show jm P w H h a (.dT kvs)from zd4 ok e);refine⟨z,y,xs,r,o,es,ep,h1,h2,d,c,λx hx=> ?_,f⟩;have all:∀{l:List (List Key×V)} {m:List (List Key×Addr×Value)},KT H l m->∀x∈m,(tupleKind (jE P w)).is h x.1 x.2.1:=by
  intro l m q
  induction q with
  | nil=>intro x hx;exact nomatch hx
  | @cons p q ps qs hq t b=>
   intro x hx;rcases wH.mp hx with e | hx
   ·subst e;exact z7D ok (by rw [<-hq.1];exact hq.2.1)
   ·exact b x hx
 exact all r x hx
def zex(ok:HOk P w H h)(e:H a=some (.dT kvs)):kvs.length<=sizeLine/\(a == sysModules)=false/\
  ∃xs,KT H kvs xs/\h.DictOfH (tupleKind (jE P w)) a xs:=zbG ok (.inl e)
end
def za3(H:Hp)(a:Addr)(y:V)(r:Option V):Prop:=
 (∃kvs k,Rd H a (.dK kvs)/\y=kV k/\r=z1E kvs k)\/∃kvs k b,Rd H a (.dT kvs)/\y= .ref b/\H b=some (.tup (k.map kV))/\r=z1E kvs k
def z6y(H:Hp)(a:Addr)(y v:V)(H':Hp):Prop:=
 (∃kvs k,H a=some (.dK kvs)/\y=kV k/\kvs.length < sizeLine/\H'=upd H a (.dK (putK kvs k v)))\/
 ∃kvs k b,H a=some (.dT kvs)/\y= .ref b/\H b=some (.tup (k.map kV))/\kvs.length < sizeLine/\H'=upd H a (.dT (putK kvs k v))
theorem za3.k{H:Hp}{a:Addr}{kvs:List (Key×V)}{k:Key}(e:H a=some (.dK kvs)):za3 H a (kV k) (z1E kvs k):= .inl ⟨kvs,k,.inl e,rfl,rfl⟩
theorem z6y.k{H:Hp}{a:Addr}{kvs:List (Key×V)}{k:Key}{v:V}(e:H a=some (.dK kvs))(hl:kvs.length < sizeLine):z6y H a (kV k) v (upd H a (.dK (putK kvs k v))):= .inl ⟨kvs,k,e,rfl,hl,rfl⟩
variable{E:Value->Shared->Prop}{h':Heap}
section
variable{σ:St}{v:V}{r:Value}
theorem Inv.big(I:Inv X pins σ H s):sysModules < s.heap.objs.size:=by
 have h:mainGlobals < s.heap.objs.size:=(I.mod.glob.keeps I.bk).lt;exact Nat.lt_trans (by decide) h
def z5S{c:HO}(I:Inv X pins σ H s)(h:Mut (H a))(hs:Heap.SameBut a s.heap h')(f:∃q,h'.get? a=some q)(new:jm X.prog X.w (upd H a c) h' a c):
  Inv X pins σ (upd H a c) {s with heap:=h',toks:=t'}:=
 I.write (x:=a) (e:=a) h (.inl rfl) (λb q d z=>(hs.2 b d).trans z) f new
def zaj{kvs:List (Key×V)}{vs:List (Key×Value)}(z:kvs.length<=sizeLine)(hd:(a == sysModules)=false)(rel:KV kvs vs)(b:h'.DictOf (jE P w) a vs):
  jm P w H' h' a (.dK kvs):=⟨z,hd,vs,rel,b⟩
theorem z9y{Q:Unit->Shared->Prop}(o:A.units + 1 < cLine)(I:Inv X pins σ H s)(g:z6y H a y v H')(j:RelV y u)(n:RelV v r)(h:∀s',Inv X pins σ H' s'->Q () s'):
  wpAny (model X.prog X.w) A (setItem (.ref a) u r) Q E s:=by
 rcases g with⟨kvs,k,e,ey,l,eH⟩ | ⟨kvs,k,b,e,ey,eb,l,eH⟩
 ·subst ey eH;obtain⟨z,hd,vs,rel,f⟩:=zd0 I.hok e;have hz:vs.length<=sizeLine:=by rw [<-rel.length];exact z
  have hl:(putK kvs k v).length<=sizeLine:=by have:=yV kvs k v;lia
  refine wpAny_setItem_pairs (hsz:=hz) (z8A j) f λh' d hs=>h _ ?_
  have x:∃q,h'.get? a=some q:=let ⟨q,_,_,hq,_⟩:=d;⟨q,hq⟩
  exact z5S I (by rw [e];exact w0s) hs x (zaj hl hd (rel.put k n) d)
 ·subst ey eH;cases (show u=Value.ref b from j);obtain⟨z,hd,xs,rel,f⟩:=zex I.hok e;have hz:xs.length<=sizeLine:=by rw [<-Paired.length rel];exact z
  have hl:(putK kvs k v).length<=sizeLine:=by have:=yV kvs k v;lia
  refine wpAny_setItem_heap (hsz:=hz) (tupleKind_room_in1 o) (z7D I.hok eb) f λh' d hs=>h _ ?_
  obtain⟨q,es,ep,hq,h2,t,p,_,B⟩:=d;refine z5S I (by rw [e];exact w0s) hs ⟨q,hq⟩ ⟨hl,hd,_,(rel.put k eb n).keeps λc ys i=> ?_,q,es,ep,hq,h2,t,p,B⟩;rw [zn (z5G i e (λz=>nomatch z))];exact i
end
def zev(td ty tv:TE):TS:=λD σ H=>tv σ H λv H1=>td σ H1 λx H2=>ty σ H2 λy c=>∃a b,x= .ref a/\z6y c a y v b/\D.nx σ b
section
variable{o i value:Expr}{pos pos' nJ:Pos}{td ty tv:TE}
theorem z41(e:X.A.units + 1 < cLine)(p:PE X o td)(hi:PE X i ty)(c:PE X value tv)(hs:swapsWith value (some (.Subscript o i pos')) pos.line X.env=pure false):
  PS X (.Assign [.Subscript o i pos'] value pos) (zev td ty tv):=by
 intro pins s σ H D I h;refine wpAny_Assign_Subscript (thn (c pins s σ H _ I h) ?_) hs;rintro r s1 ⟨v,H1,d,w,q1⟩;refine thn (p pins s1 σ H1 _ d q1) ?_;rintro u s2 ⟨x,H2,q,l,b⟩;refine thn (hi pins s2 σ H2 _ q b) ?_;rintro F B ⟨y,C,z,j,a,n,ex,g,f⟩;subst ex;obtain rfl:u=Value.ref a:=l;exact z9y e z g j w λE t=>⟨σ,n,t,f⟩
end
def z7j(h:Heap)(a:sysModules < h.objs.size):jm P w H (h.push {cls:= .type "dict",data:= .dict #[]}) h.objs.size (.dK []):=
 ⟨Q6 _,w0i.mpr (w1p (qe a)),[],.nil,Heap.DictOf.new h⟩
def zdp:TE:=λ_ H Q=>∀p,H p=none->Q (.ref p) (upd H p (.dK []))
section
variable{pos:Pos}
def z9Z:PE X (.Dict [] [] pos) zdp:=λpins s σ H Q I h=>
 wpAny_Dict_empty ⟨.ref s.heap.objs.size,_,I.laid (a:=s.heap.objs.size) (o:= .dK []) (t':=s.toks) (λ_ _ q=>wo _ q) (wu _) (z7j s.heap I.big),rfl,h _ (I.hok.fresh (wu _))⟩
end
def z7n:List (TE×TE)->St->Hp->(List (V×V)->Hp->Prop)->Prop
 | [],_,H,Q=>Q [] H
 | (tk,tv) :: r,σ,H,Q=>tk σ H λx H1=>tv σ H1 λy H2=>z7n r σ H2 λps a=>Q ((x,y) :: ps) a
abbrev VV:List (V×V)->List (Value×Value)->Prop:=Paired λp q=>RelV p.1 q.1/\RelV p.2 q.2
def PPs(X:Cx)(pos:Pos)(keys:List (Option Expr))(values:List Expr)(eJ:List (TE×TE)):Prop:=
 ∀(pins:List (Addr×Obj)) (s:Shared) (σ:St) (H:Hp) (Q:List (V×V)->Hp->Prop),Inv X pins σ H s->z7n eJ σ H Q->
  wpAny (model X.prog X.w) X.A (evalPairs (pairTrees keys values X.env pos)) (λvs s'=>∃ps H',Inv X pins σ H' s'/\VV ps vs/\Q ps H') X.xe s
def zcN{pos:Pos}:PPs X pos [] [] []:=λpins s σ H Q I h=>pairTrees_nil_walk ⟨[],H,I,.nil,h⟩
variable{eJ:List (TE×TE)}
theorem z1J{pos:Pos}{k v:Expr}{ks:List (Option Expr)}{vs:List Expr}{tk tv:TE}(j:PE X k tk)(b:PE X v tv)(hr:PPs X pos ks vs eJ):
  PPs X pos (some k :: ks) (v :: vs) ((tk,tv) :: eJ):=λpins s σ H Q I h=>
 pairTrees_cons_walk (thn (j pins s σ H _ I h) λu s1 ⟨x,H1,c,i,q1⟩=>thn (b pins s1 σ H1 _ c q1) λw2 s2 ⟨y,H2,l,f,a⟩=>
  thn (hr pins s2 σ H2 _ l a) λws o ⟨ps,d,n,rel,e⟩=>⟨(x,y) :: ps,d,n,.cons ⟨i,f⟩ rel,e⟩)
noncomputable def z39(kvs more:List (Key×V)):List (Key×V):=more.foldl (λa kv=>putK a kv.1 kv.2) kvs
theorem KV.merge:∀{more:List (Key×V)} {rs:List (Key×Value)} {kvs:List (Key×V)} {vs:List (Key×Value)},KV more rs->KV kvs vs->KV (z39 kvs more) (merged vs rs):=by
 intro more rs kvs vs r;unfold KV at r
 induction r generalizing kvs vs with
 | nil=>intro q;exact q
 | @cons p q ps qs h t a=>
  intro r0;have e:KV (putK kvs p.1 p.2) (stored vs q.1 q.2):=by
   have:=r0.put p.1 h.2;rw [<-h.1];exact this
  exact a e
theorem z2o:∀(more kvs:List (Key×V)),(z39 kvs more).length<=kvs.length + more.length
 | [],kvs=>by show kvs.length<=kvs.length + 0;lia
 | p :: r,kvs=>by
  have h1:=z2o r (putK kvs p.1 p.2);have h2:=yV kvs p.1 p.2
  show(z39 (putK kvs p.1 p.2) r).length<=_
  rw [wP];lia
theorem z4e{P:Program}{w:World}:∀{kvs:List (Key×V)} {ws:List (Value×Value)},VV (kvs.map λkv=>(kV kv.1,kv.2)) ws->∃rs,Carries (jE P w) ws rs/\KV kvs rs
 | [],_,r=>by rw [w0W]at r;cases r;exact⟨[],w0s,.nil⟩
 | p :: kvs,_,r=>by
  rw [qK]at r;cases r with
  | @cons a b d bs h t=>
   obtain⟨rs,c,q⟩:=z4e (P:=P) (w:=w) t;obtain⟨b1,b2⟩:=b;exact⟨(p.1,b2) :: rs,⟨z8A h.1,rfl,c⟩,.cons ⟨rfl,h.2⟩ q⟩
def zeJ(eJ:List (TE×TE)):TE:=λσ H Q=>∀p,H p=none->z7n eJ σ (upd H p (.dK [])) λps H2=>H2 p=some (.dK [])/\∃kvs:List (Key×V),ps=kvs.map (λkv=>(kV kv.1,kv.2))/\kvs.length<=15/\Q (.ref p) (upd H2 p (.dK (z39 [] kvs)))
theorem zc0{pos:Pos}{keys:List (Option Expr)}{values:List Expr}(h:PPs X pos keys values eJ)(p:keys.all (·.isSome)=true)(hl:keys.length=values.length)(h0:keys≠ [])
  (l:keys.length<=15):PE X (.Dict keys values pos) (zeJ eJ):=by
 intro pins s σ H Q I q;have hn:=I.hok.fresh (wu s.heap.objs.size);have j:=I.laid (a:=s.heap.objs.size) (o:= .dK []) (h':=s.heap.push {cls:= .type "dict",data:= .dict #[]}) (t':=s.toks) (λ_ _ q=>wo _ q) (wu _) (z7j s.heap I.big);refine wpAny_Dict_walk (knd:=jE X.prog X.w) p hl h0 l (thn (h pins _ σ _ _ j (q _ hn)) ?_);rintro ws s2 ⟨ps,H2,b,rel,e,kvs,ep,t,i⟩;subst ep;obtain⟨rs,c,r⟩:=z4e (P:=X.prog) (w:=X.w) rel;obtain⟨z,hd,u,r0,f⟩:=zd0 b.hok e;cases r0;refine⟨rs,c,f,λh' d hs=>⟨.ref s.heap.objs.size,_,?_,rfl,i⟩⟩;have hz:(z39 [] kvs).length<=sizeLine:=by
  have h1:=z2o kvs [];rw [Qo]at h1;rw [w04];lia
 have n:∃q,h'.get? s.heap.objs.size=some q:=let ⟨q,_,_,hq,_⟩:=d;⟨q,hq⟩
 exact z5S b (by rw [e];exact w0s) hs n (zaj hz hd (r.merge .nil) d)
structure M1(X:Cx)(o:Expr)(m:Str)(apos:Pos)(e:Expr)(af:Pos):Prop where
 base:attributeBase o m X.env (eval o X.env)=eval o X.env
 few:((backTo af (starEach [e] X.env)).all (λx=> !x.1) && (backToKw af (keywordEach [] X.env)).all (λx=>x.1.isSome)
  && decide (([e]:List Expr).length + ([]:List Keyword).length + (if([]:List Keyword).isEmpty then 0 else 1) < 30))=true
 line:(apos.endLine == af.line)=true
 trees:backTo af (starEach [e] X.env)= [(false,eval e X.env)]
structure M2(X:Cx)(o:Expr)(m:Str)(apos:Pos)(e f:Expr)(af:Pos):Prop where
 base:attributeBase o m X.env (eval o X.env)=eval o X.env
 few:((backTo af (starEach [e,f] X.env)).all (λx=> !x.1) && (backToKw af (keywordEach [] X.env)).all (λx=>x.1.isSome)
  && decide (([e,f]:List Expr).length + ([]:List Keyword).length + (if([]:List Keyword).isEmpty then 0 else 1) < 30))=true
 line:(apos.endLine == af.line)=true
 trees:backTo af (starEach [e,f] X.env)= [(false,eval e X.env),(false,eval f X.env)]
def IsD(H:Hp)(a:Addr):Prop:=(∃kvs,Rd H a (.dK kvs))\/∃kvs,Rd H a (.dT kvs)
theorem zdv{σ:St}(I:Inv X pins σ H s)(d:IsD H a):
  s.TypeIs (.ref a) "dict"/\(∀b,Value.ref a= .ref b->∃c,s.heap.get? b=some c/\c.dict=none)/\(a == sysModules)=false:=by
 rcases d with⟨kvs,e⟩ | ⟨kvs,e⟩
 ·obtain⟨_,hd,vs,_,f⟩:=zam I.hok e;refine⟨f.typeIs,λb q=> ?_,hd⟩;cases q;obtain⟨c,_,_,h1,h2,_⟩:=f;exact⟨c,h1,h2.2.1⟩
 ·obtain⟨_,hd,xs,_,f⟩:=zbG I.hok e;refine⟨f.typeIs,λb q=> ?_,hd⟩;cases q;obtain⟨c,_,_,h1,h2,_⟩:=f;exact⟨c,h1,h2.2.1⟩
section
variable{σ:St}{d:V}{r:Value}
theorem zdf{Q:Value->Shared->Prop}(j:A.units + 1 < cLine)(I:Inv X pins σ H s)(g:za3 H a y o)(i:RelV y u)(f:RelV d r)(h:∀w' s',Inv X pins σ H s'->RelV (o.getD d) w'->Q w' s'):
  wpAny (model X.prog X.w) A (call (.builtin "dict.get") [.ref a,u,r]) Q E s:=by
 rcases g with⟨kvs,k,e,ey,l⟩ | ⟨kvs,k,b,e,ey,eb,l⟩
 ·subst ey;obtain⟨z,hd,vs,rel,c⟩:=zam I.hok e;refine call_meetsIn PySem.F.slot_dict_get c.typeIs PySem.F.entry_dict_get (PySem.F.args_dict_get_3 _ _ _) (meets_dict_get_default (jE X.prog X.w) a (z8A i) hd r) ⟨_,c.mapOf,h _ _ (I.tok _) ?_⟩;rw [l];exact(rel.val k).getD f
 ·subst ey;cases (show u=Value.ref b from i);obtain⟨z,hd,xs,rel,c⟩:=zbG I.hok e;refine call_meetsIn PySem.F.slot_dict_get c.typeIs PySem.F.entry_dict_get (PySem.F.args_dict_get_3 _ _ _) (meetsH_dict_get_default (tupleKind (jE X.prog X.w)) a b hd r) ⟨tupleKind_room_in1 j,k,xs,z7D I.hok eb,c,h _ _ (I.tok _) ?_⟩;rw [l];exact(rel.val k).getD f
end
def zdM(td ty tx:TE):TE:=λσ H Q=>td σ H λx H1=>∃a,x= .ref a/\IsD H1 a/\ty σ H1 λy H2=>tx σ H2 λz b=>∃o,za3 b a y o/\Q (o.getD z) b
section
variable{o f:Expr}{apos af:Pos}{td ty tx:TE}
theorem zaq(n:X.A.units + 1 < cLine)(t:PE X o td)(D:PE X e ty)(c:PE X f tx)(m:M2 X o "get" apos e f af):PE X (.Call (.Attribute o "get" apos) [e,f] [] af) (zdM td ty tx):=by
 intro pins s σ H Q I h;refine wpAny_Call_method m.base m.few m.line PySem.F.plainAttrs_dict PySem.F.slot_dict_get PySem.F.type_dict_get (thn (t pins s σ H _ I h) ?_);rintro u s1 ⟨x,H1,b,r,a,ex,d,q1⟩;subst ex;obtain rfl:u=Value.ref a:=r;obtain⟨w,G,_⟩:=zdv b d;refine⟨w,G,?_⟩;rw [m.trees];refine Calls.callWith_builtin rfl (Calls.evalArgs_plain (w01 (thn (D pins s1 σ H1 _ b q1) λN s2 ⟨y,H2,B,q,i⟩=>
  w01 (thn (c pins s2 σ H2 _ B i) λO K ⟨z,j,J,p,M,g,l⟩=>w14 ?_))))
 exact zdf n J g q p λw' L C E=>⟨_,j,C,E,l⟩
end
end L2
namespace Att
open PySem PySem.W PySem.Calls PyProof.Rows
variable{P:Params}{h:Heap}
theorem z3M:∀(ns:List Int) (vs:List Value),WellAll P h vs (ns.map WData.int)->IntsAre vs ns:=by
 intro ns
 induction ns with
 | nil=>
  intro vs w;rw [w0W]at w;cases w;exact .nil
 | cons n ns c=>
  intro vs w;rw [qK]at w;cases w with
  | cons a b=>
   cases a;exact .cons _ _ (c _ b)
variable{l:OpenLaw}{n:Nat}
theorem z9E(hn:l.most=some n){args:List WData}{vals:List Value}
  (e:l.row.toRowW.claim.pre args=true) (p:WellAll P h vals args):
  ∃a vs ns,vals= [Value.ref a]/\args= [WData.list (ns.map WData.int)]/\h.get? a=some {cls:= .type "list",data:= .seq vs.toArray}/\IntsAre vs ns/\ns.length<=n:=by
 have f:WShape.hasAll [] args [.list .int]=true:=(pre_splitW e).1;have hc:l.pre.holds [] {args:=args}=true:=(pre_splitW e).2;obtain⟨d,r,rfl,h1,h2⟩:=hasAllW_cons f;obtain rfl:=hasAllW_nil h2;obtain⟨xs,rfl,j⟩:=hasW_list h1;obtain⟨ns,rfl⟩:=items_int j;have hlen:ns.length<=n:=by
  unfold OpenLaw.pre at hc;have b:(WTm.not (.lt (.lit (.int (n:Int))) (.len (.arg 0)))).holds [] {args:= [.list (ns.map .int)]}=true:=by
   have b:=(holds_andW hc).1;rw [hn]at b;exact b
  have c:=condW_of b (w_not (w_lt w_lit (w_len_list (w_arg rfl))));rw [w9]at c;refine Nat.le_of_not_lt λq=> ?_
  have q':(n:Int) < ((ns.length:Nat):Int):=by lia
  first
   | (rw [wS q']at c;exact absurd c (by decide))
   | (simp at c;lia)
 cases p with
 | cons w1 w2=>
  cases w2;cases w1 with
  | list i o=>exact⟨_,_,ns,rfl,rfl,i,z3M ns _ o,hlen⟩
theorem z98(l:OpenLaw)(args:List WData):l.row.toRowW.claim.post args (.bool true) args=true:=
 postW_of (r:=l.row.toRowW) (X:=(true == true))
  (show WShape.has [] (.bool true) .bool=true by first | rfl | decide | simp [WShape.has,WShape.arms,WShape.armsAll])
  (show(WTm.eq .res (.lit (.bool true))).value [] {args:=args,res:=some (.bool true),after:=args}=some (.bool (true == true))from w_eq_bool (w_res rfl) w_lit) rfl
theorem attach_call{q:Program}{loose:List Str}{i:(Str->Option Value)->Heap->Prop}{e:World->Heap->Prop}{d:DefRec}
  (hn:l.most=some n) (x:d.params.defaults= [])
  (call:∀(w:World) (s₀ b:Shared) (mg mb:Str->Option Value) (c:Addr) (o:Obj) (pm cd aS:Value) (a:Addr) (vs:List Value) (ns:List Int),
   Ground q loose [] i w s₀ mg mb b.heap->e w b.heap->
   b.heap.get? c=some o->o.data= .func (docDef d.name d.params d.body d.scope pm cd aS)->b.heap.CodeRec cd d.name->mg d.name=some (.ref c)->
   b.heap.get? a=some {cls:= .type "list",data:= .seq vs.toArray}->IntsAre vs ns->ns.length<=n->b.gens= #[]->
   codeAny (model l.prog w) callerA (.call (.ref c) ⟨[.ref a],[]⟩) (λr s'=>r= .ok (.ret (.bool true))/\OldK b.heap s'.heap/\s'.os=b.os/\AllBare s'.gens) b):
  WalkO q loose i e l.row.toRowW d [] (λf vs=>PySem.call f vs):=by
 intro w s₀ b mg mb G Y c o pm cd aS A kV y hd j h p t args vals H u F D C E;obtain rfl:A= .none:=Dflts.none h x;obtain rfl:kV= .none:=Dflts.noKw h;obtain⟨a,vs,ns,rfl,rfl,B,hints,hlen⟩:=z9E hn u C;refine enter_call (w0u (call w s₀ b mg mb c o pm cd aS a vs ns G Y y (fd_plain hd) j p B hints hlen t) λr s' hq=> ?_);obtain⟨rfl,h2,z,s⟩:=hq;exact⟨.inl ⟨.bool true,.bool true,[],rfl,λ_=>rfl,.bool true,z98 l _,λ_=>⟨List.Pairwise.nil,λ_ hm=>(nomatch hm)⟩⟩,h2,z,s⟩
end Att
namespace L2
open PySem PySem.Spec PyProof.Rows
def z5I:∀{vs:List Value} {ns:List Int},IntsAre vs ns->zQ (ns.map V.int) vs
 | _,_,.nil=> .nil
 | _,_,.cons n t h=> .cons ⟨t,rfl⟩ (z5I h)
noncomputable def z0l(s:Stmt):Arguments:=match s with
 | .FunctionDef _ a _ _ _ _ _ _ _ _=>a
 | _=>{posonlyargs:= [],args:= [],vararg:=none,kwonlyargs:= [],kw_defaults:= [],kwarg:=none,defaults:= []}
noncomputable def yq(s:Stmt):List Stmt:=match s with
 | .FunctionDef _ _ b _ _ _ _ _ _ _=>b
 | _=> []
noncomputable def zm(s:Stmt):Scope:=match s with
 | .FunctionDef _ _ _ _ _ _ sc _ _ _=>sc
 | _=>{kind:= .function,names:= [],isGenerator:=false,isCoroutine:=false}
abbrev CX0:CXT:=λ_ _ _ _ _ _=>False
abbrev E0:XK:=λ_ _ _=>False
variable{X:Cx}
def z3B:z1g CX0 X E0:=λ_ _ _ _ _ _ _ h=>h.elim
structure Fun(K:W.Frag)(x qual:Str)(st:Stmt)(f:Addr)(fd:FuncData):Prop where
 ex:∃(oc:Value) (od:Option Addr) (kV aS pm:Value) (an:Option Addr) (ad ct:Value) (cB:Array (Option Value)),
  fd=PySem.W.fnOf x qual (z0l st) (yq st) (zm st) .none kV aS pm an ad ct/\K.lookup f=some ⟨oc,od,.func fd,cB⟩/\PySem.W.codeIn K ad qual=true
 kp:PySem.W.keepIn K (.ref f)=true
variable{x qual:Str}{st:Stmt}{f:Addr}{fd:FuncData}
section
variable{P:Program}{w:World}{K:W.Frag}{mg:Str->Option Value}{base:Heap}{ps:List Str}
theorem Fun.ok{N:List Str}{k:Nat}{sp:Sp}(F:Fun K x qual st f fd)(S:FnScope N ps (zm st))(len:∀vs H Q E,sp vs H Q E->vs.length=ps.length)
  (a:∀(ad:Value) (A:Around) (outer:List Env) (s:Shared) (H:Hp) (vs:List V) (Q:VK) (E:XK),Room k (A.deeper (envOfC qual (zm st) s.heap.objs.size f ad))->sp vs H Q E->
   ∃t,PSs (z3k CX0 P w K mg base N qual (zm st) f ad A outer s H E).nox (yq st) t/\t {nx:=λ_ H'=>Q .non H',rt:=Q} (start N vs) H):FnOk P w K mg base CX0 (k + 1) f fd ps sp:=by
 obtain⟨oc,od,kV,aS,pm,an,ad,ct,cB,rfl,b,c⟩:=F.ex;refine zd7 b c S len λA outer s H vs Q E hr d=> ?_
 obtain⟨t,h,q⟩:=a ad A outer s H vs Q E hr d;exact⟨t,h.nox,q⟩
theorem Fun.binds(F:Fun K x qual st f fd)
  (h:∀(kV aS pm:Value) (an:Option Addr) (ad ct:Value) (us:List Value),us.length=ps.length->bindArgs (PySem.W.fnOf x qual (z0l st) (yq st) (zm st) .none kV aS pm an ad ct) ⟨us,[]⟩=pure (ps.zip us)):Binds K fd ps []:=by
 obtain⟨oc,od,kV,aS,pm,an,ad,ct,cB,rfl,a,b⟩:=F.ex;exact .all (h kV aS pm an ad ct)
def z6a{oc:Value}{od an:Option Addr}{cB:Array (Option Value)}{kV aS pm ad ct:Value}(l:K.lookup f=some ⟨oc,od,.func (PySem.W.fnOf x qual (z0l st) (yq st) (zm st) .none kV aS pm an ad ct),cB⟩)
  (c:PySem.W.codeIn K ad qual=true) (k:PySem.W.keepIn K (.ref f)=true):Fun K x qual st f (PySem.W.fnOf x qual (z0l st) (yq st) (zm st) .none kV aS pm an ad ct):=⟨⟨oc,od,kV,aS,pm,an,ad,ct,cB,rfl,l,c⟩,k⟩
end
theorem z1x{A:Around}{k:Nat}(hr:Room k A):A.units + 1 < cLine:=Nat.lt_of_le_of_lt (Nat.add_le_add_left (by decide:1<=64) _) hr.units
theorem pv(i:Nat){pos:Pos}(b:X.N[i]? =some x:=by rfl)(a:Vis X.env.scope x:=by first | exact w02 rfl | exact QO (w02 rfl) | exact QO (QO rfl))(hd:(x == ("__debug__":Str))=false:=by decide)
  (c:(x == ("__classdict__":Str))=false:=by decide):PE X (.Name x pos) (z76 i):=z2r b a hd c
variable{A B:Prop}
theorem z7E(h:B):if false=true then A else B:=by
 rw [wU wT];exact h
theorem z9L(h:A):if true=true then A else B:=by
 rw [wY rfl];exact h
theorem kC{c:Prop} [Decidable c] (h1:c->A)(h2:¬c->B):if c then A else B:=by
 by_cases h:c
 ·rw [wY h];exact h1 h
 ·rw [wU h];exact h2 h
def zz(H H':Hp):Prop:=∀b o,H b=some o->H' b=some o
def zz.refl(H:Hp):zz H H:=λ_ _ h=>h
variable{H:Hp}
theorem zz.trans{H1 H2:Hp}(a:zz H H1)(b:zz H1 H2):zz H H2:=λc o h=>b c o (a c o h)
theorem zz.free{H':Hp}(e:zz H H'){l:Addr}(h:H' l=Option.none):H l=Option.none:=by
 cases q:H l with
 | none=>rfl
 | some o=>
  rw [e l o q]at h;cases h
theorem zz.seq{K:W.Frag}{H':Hp}{a:Addr}{xs:List V}(e:zz H H')(h:SqL K H a xs):SqL K H' a xs:=by
 rcases h with(h | ⟨o,h⟩) | h
 ·exact .inl (.inl (e _ _ h))
 ·exact .inl (.inr ⟨o,e _ _ h⟩)
 ·exact .inr h
section
variable{κ:Type}[DecidableEq κ]{kvs:List (κ×V)}
theorem za6{k:κ}(h:z1E kvs k=none):¬k∈kvs.map (·.1):=by
 intro m;obtain⟨p,hp,e⟩:=qI.mp m;have q:(kvs.any λkv=>decide (kv.1=k))=true:=w1b.mpr ⟨p,hp,wS e⟩;rw [z17,h]at q;exact absurd q (by simp)
theorem zbV{k:κ}{v:V}(h:z1E kvs k=some v):k∈kvs.map (·.1):=by
 have q:(kvs.any λkv=>decide (kv.1=k))=true:=by
  rw [z17,h]
  all_goals rfl
 obtain⟨p,hp,e⟩:=w1b.mp q;exact qI.mpr ⟨p,hp,qD e⟩
theorem z8K:∀{l:List κ} {k:κ},l.Nodup->¬k∈l->(l ++ [k]).Nodup
 | [],k,_,_=>by simp
 | a :: r,k,h,b=>by
  obtain⟨h1,h2⟩:=w0l.mp h
  show(a :: (r ++ [k])).Nodup
  refine w0l.mpr ⟨λm=> ?_,z8K h2 λm=>b (wH.mpr (QO m))⟩;rcases wA.mp m with q | q
  ·exact h1 q
  ·exact b (wH.mpr (w02 (wz.mp q).symm))
end
end L2
set_option Elab.async false
set_option linter.all false
set_option maxRecDepth 100000

namespace L2
open PySem PySem.Spec PyProof.Rows
variable{H:Hp}
theorem zJ{p:Addr}(h:H p=none)(o:HO):zz H (upd H p o):=λb u q=>by rw [zn (zy q h)];exact q
variable{l:Addr}{o:HO}
theorem zz.put{H':Hp}(e:zz H H')(h:H l=none):zz H (upd H' l o):=λb u q=>by
 rw [zn (zy q h)];exact e b u q
def Kp(l:Addr)(H H':Hp):Prop:=∀b o,b≠l->H b=some o->H' b=some o
def Kp.refl:Kp l H H:=λ_ _ _ h=>h
theorem z2w:Kp l H (upd H l o):=λb u n h=>by rw [zn n];exact h
variable{n:Nat}
theorem je(h:n<=1000000):n<=sizeLine:=by
 have:sizeLine=16777216:=w04
 lia
theorem zK(h:n<=1000000):n < sizeLine:=by
 have:sizeLine=16777216:=w04
 lia
variable{X:Cx}
theorem zS:kj X (.builtin "isinstance") (λxs H Q=>∃x n t b,xs= [x,.ty n]/\TyOf X.K H x t/\PySem.W.kitOne X.K t (.type n)=some b/\Q (.bl b) H):=by
 intro pins s σ H xs us Q I r h;obtain⟨x,n,t,b,rfl,ty,e,q⟩:=h;obtain⟨u,w',rfl,c,a⟩:=vals2 r;cases (show w'=Value.type n from a);exact z9s I c ty e λtk=>⟨.bl b,H,I.tok _,rfl,q⟩
variable{K:W.Frag}
theorem jC{n:String}:PySem.W.kitOne K (.type n) (.type n)=some true:=by
 unfold PySem.W.kitOne;rw [wY (w06 _)]
theorem z09:PySem.W.kitOne K (.type "int") (.type "str")=some false:=by kernel_rfl
theorem z0U:PySem.W.kitOne K (.type "str") (.type "tuple")=some false:=by kernel_rfl
theorem z15:PySem.W.kitOne K (.type "int") (.type "tuple")=some false:=by kernel_rfl
theorem z5X:PySem.W.kitOne K (.type "int") (.type "bool")=some false:=by kernel_rfl
def za5(K:W.Frag):V->List V->Hp->VK->Prop:=λx vs H Q=>∃l xs y j,x= .ref l/\vs= [y]/\SqL K H l xs/\yY y=true/\xs.all yY=true/\
 (∃z,xs[j]? =some z/\eqV z y=true)/\(∀m z,m < j->xs[m]? =some z->eqV z y=false)/\Q (.int ((j:Nat):Int)) H
theorem z0D:MtM X "list.index" (za5 X.K):=by
 intro pins s σ H x vs v us Q I C G h;obtain⟨l,xs,y,j,rfl,rfl,hq,E,fs,⟨z,hz,B⟩,f,q⟩:=h;cases C;obtain⟨u,rfl,D⟩:=G.one;obtain⟨its,r,pl,hsz⟩:=I.list hq;obtain⟨⟨cls,p,data,sl⟩,e,hc,n,hd⟩:=pl.isList;simp only at hc hd;subst hc hd;have hl:=r.length;have hn:=z2s;have L:j < xs.length:=(wk.mp hz).1;have o:j < its.length:=by lia
 refine call_meets Qf ⟨_,e,rfl⟩ PySem.F.entry_list_index (PySem.F.args_list_index_2 _ _)
  (SeqAt.list_indexAt l its.toArray n p sl u (eqU y) j (by rw [wB];exact o) (by lia) ?_ ?_) ⟨e,λw i=>z16 D E r fs w (by simpa using i),⟨.int ((j:Nat):Int),H,I.tok _,⟨_,rfl⟩,q⟩⟩
 ·obtain⟨w,a,d⟩:=r.get hz;have b:its[j]=w:=(wk.mp a).2
  show eqU y its[j]=true
  rw [b,z5V d (qQ.mp fs z (qA hz))];exact B
 ·intro m hm A;have J:m < its.length:=by rw [wB]at hm;exact hm
  have t:m < xs.length:=by lia
  have c:xs[m]? =some xs[m]:=we t;obtain⟨w,a,d⟩:=r.get c;have b:its[m]=w:=(wk.mp a).2
  show eqU y its[m]=false
  rw [b,z5V d (qQ.mp fs _ (qA c))];exact f m _ A c
def zdi(K:W.Frag):R2:=λx y H Q=>∃a b xs,x= .ref a/\y= .ref b/\SqL K H a xs/\SqL K H b []/\Q (.bl xs.isEmpty) H
theorem z1M(p:X.A.units + 1 < cLine):OpR X (compareOp .Eq) (zdi X.K):=by
 intro pins s σ H x y v u Q I n i h;have c:X.A.units < cLine:=by lia
 obtain⟨a,b,xs,rfl,rfl,ha,f,q⟩:=h;cases n;cases i;obtain⟨its,r,pl,hz⟩:=I.list ha;obtain⟨o,r2,d,_⟩:=I.list f;have l:o= []:=r2.zero;subst l;cases r with
 | nil=>exact SeqAt.eq_listAt (e:=λ_=>true) pl.isList d.isList rfl c (λj h1 _=>absurd h1 (by simp)) ⟨.bl true,H,I,by simp [RelV],q⟩
 | cons r1 r2=>exact SeqAt.eq_list_lengthsAt pl.isList d.isList (by simp) c ⟨.bl false,H,I,rfl,q⟩
variable{c:Bool}
theorem ifT{A B:Prop}(h:c=true)(a:A):if c=true then A else B:=by rw [wY h];exact a
theorem ifF{A B:Prop}(h:c=false)(b:B):if c=true then A else B:=by rw [wU (by rw [h];exact wT)];exact b
theorem qbl{Q:VK}{a b:Bool}(e:a=b)(q:Q (.bl b) H):Q (.bl a) H:=by rw [e];exact q
theorem z46{i j:Int}:decide (V.int i=V.int j)=decide (i=j):=by
 rw [w0k];simp
theorem zV{i j:Str}:decide (V.str i=V.str j)=decide (i=j):=by
 rw [w0k];simp
section
variable{a b:Expr}{ta tb:TE}{pos:Pos}{tA eG:TT}
def zeQ(ta tb:TE):TE:=λσ H Q=>ta σ H λx H1=>∃c,x= .bl c/\∃d,(tb σ H1 λy H2=>y= .bl d/\H2=H1)/\Q (.bl (c && d)) H1
theorem zcm(ha:PE X a ta)(i:PE X b tb):PE X (.BoolOp .And [a,b] pos) (zeQ ta tb):=by
 intro pins s σ H Q I h;refine BoolOp_and (thn (ha pins s σ H _ I h) ?_);rintro v s1 ⟨x,H1,f,r1,q1⟩;obtain⟨c,rfl,d,j,q1⟩:=q1;cases r1;refine w0D ?_;cases c with
 | true=>
  refine BoolOp_one (thn (i pins s1 σ H1 _ f j) ?_);rintro v2 s2 ⟨y,H2,l,r2,e,n⟩;subst e n;exact⟨.bl d,H2,l,r2,by rw [w15]at q1;exact q1⟩
 | false=>exact⟨.bl false,H1,f,rfl,by rw [w1B]at q1;exact q1⟩
def zer(tA tB:TT):TT:=λσ H Q=>tA σ H λc H1=>∃d,(tB σ H1 λd' H2=>d'=d/\H2=H1)/\Q (c && d) H1
def zff(tA tB:TT):TT:=λσ H Q=>tA σ H λc H1=>∃d,(tB σ H1 λd' H2=>d'=d/\H2=H1)/\Q (c || d) H1
theorem z5T(ha:PT X a tA)(j:PT X b eG):PT X (.BoolOp .And [a,b] pos) (zer tA eG):=by
 intro pins s σ H Q I h;refine isTrue_and (thn (ha pins s σ H _ I h) ?_);rintro c s1 ⟨H1,f,d,l,q1⟩;cases c with
 | true=>
  refine isTrue_and (thn (j pins s1 σ H1 _ f l) ?_);rintro n s2 ⟨H2,i,e,o⟩;subst e o;rw [w15]at q1;cases n with
  | true=>exact isTrue_and_nil ⟨H2,i,q1⟩
  | false=>exact⟨H2,i,q1⟩
 | false=>exact⟨H1,f,by rw [w1B]at q1;exact q1⟩
theorem z1K(ha:PT X a tA)(j:PT X b eG):PT X (.BoolOp .Or [a,b] pos) (zff tA eG):=by
 intro pins s σ H Q I h;refine isTrue_or (thn (ha pins s σ H _ I h) ?_);rintro c s1 ⟨H1,f,d,l,q1⟩;cases c with
 | false=>
  refine isTrue_or (thn (j pins s1 σ H1 _ f l) ?_);rintro n s2 ⟨H2,i,e,o⟩;subst e o;rw [Bool.false_or]at q1;cases n with
  | false=>exact isTrue_or_nil ⟨H2,i,q1⟩
  | true=>exact⟨H2,i,q1⟩
 | true=>exact⟨H1,f,by rw [Bool.true_or]at q1;exact q1⟩
def zb0(c:TT)(t u:TS):TS:=λD σ H=>∃J:St->Hp->Prop,(c σ H λb H1=>if b=true then t {D with nx:=J} σ H1 else u {D with nx:=J} σ H1)/\∀σ' H',J σ' H'->D.nx σ' H'
theorem z0f{c:Expr}{a b:List Stmt}{tc:TT}{t u:TS}(hc:PT X c tc)(ha:PSs X a t)(i:PSs X b u):PS X (.If c a b pos) (zb0 tc t u):=by
 intro pins s σ H D I h;obtain⟨J,h,j⟩:=h;have fin:∀(f:Flow) (s':Shared),SP X pins {D with nx:=J} f s'->SP X pins D f s':=λf s' q=>by
  cases f with
  | next=>obtain⟨σ',H',l,q⟩:=q;exact⟨σ',H',l,j _ _ q⟩
  | ret v=>exact q
  | brk=>exact q
  | cont=>exact q
 refine wpAny_If (thn (hc pins s σ H _ I h) ?_);rintro d s1 ⟨H1,e,q1⟩;cases d with
 | true=>exact thn (ha pins s1 σ H1 _ e q1) fin
 | false=>exact thn (i pins s1 σ H1 _ e q1) fin
end
def z0N{c:TT}{tb:TS}{D:Ends}{σ:St}(W:Nat->St->Hp->Prop)(m:Nat)(h0:W m σ H)
  (hs:∀m σ H,W m σ H->c σ H λb H1=>if b=true then∃N:St->Hp->Prop,(∀σ' H',N σ' H'->∃a,a < m/\W a σ' H')/\tb {D with nx:=N,ct:=N,bk:=D.nx} σ H1 else D.nx σ H1):z1s c tb D σ H:=
 ⟨W,⟨m,h0⟩,hs⟩
structure Kn(P:Program)(w:World)(K:W.Frag)(mg:Str->Option Value)(base:Heap)(k:Nat)(x:Str)(ps:List Str)(sp:Sp):Prop where
 ex:∃(f:Addr) (fd:FuncData),FnOk P w K mg base CX0 k f fd ps sp/\mg x=some (.ref f)/\PySem.W.keepIn K (.ref f)=true/\Binds K fd ps []
theorem z6F{k:Nat}{x:Str}{ps:List Str}{sp:Sp}{e:Expr}{es:List Expr}{t:TA}{p pos:Pos}(C:Kn X.prog X.w X.K X.mg X.base k x ps sp)(hr:Room k X.A)(c:Gl X x)(ha:PA X (e :: es) t)
  (b:(x == ("__debug__":Str))=false:=by decide) (i:starEach (e :: es) X.env=(false,eval e X.env) :: starEach es X.env:=by rfl) (d:(backTo pos (starEach es X.env)).any (·.1)=false:=by rfl):
  PE X (.Call (.Name x p) (e :: es) [] pos) (zag sp [] E0 t):=by
 obtain⟨f,fd,F,hm,h,a⟩:=C.ex;exact zca F hr c hm h a .nil z3B ha b i d
variable{α:Type}
theorem z2c(gs:List α)(x:α):(gs ++ [x])[(gs ++ [x]).length - 1]? =some x:=by simp
def z42{l:List α}(h:l≠ []):∃gs x,l=gs ++ [x]:=⟨l.dropLast,l.getLast h,(List.dropLast_concat_getLast h).symm⟩
variable{x:α}{r:List α}
def zF:atI (x :: r) 0=some x:=zN (j:=0) rfl
def j6{y:α}:atI (x :: y :: r) 1=some y:=zN (j:=1) rfl
def jr{y z:α}:atI (x :: y :: z :: r) 2=some z:=zN (j:=2) rfl
theorem zcR{xs:List α}{i:Int}{v:α}(h0:0<=i)(h:xs[i.toNat]? =some v):atI xs i=some v:=by
 have e:i=((i.toNat:Nat):Int):=by lia
 rw [e];exact zN h
theorem jo(ss:List Str):(ss.map V.str).all yY=true:=by
 rw [qQ];intro x a;obtain⟨s,_,rfl⟩:=qI.mp a
 rfl
theorem yS{ss:List Str}{s:Str}(h:s∈ss):(∃z,(ss.map V.str)[ss.idxOf s]? =some z/\eqV z (.str s)=true)/\∀m z,m < ss.idxOf s->(ss.map V.str)[m]? =some z->eqV z (.str s)=false:=by
 have a:ss.idxOf s < ss.length:=qX.mpr h;refine⟨⟨.str s,?_,?_⟩,λm z hm hz=> ?_⟩
 ·rw [wQ,we a,List.getElem_idxOf a]
  rfl
 ·show(s == s)=true
  exact w06 s
 ·have b:m < ss.length:=by lia
  rw [wQ,we b]at hz;cases hz
  show(ss[m] == s)=false
  have h2:m < ss.findIdx (· == s):=hm;exact List.not_of_lt_findIdx h2
end L2

namespace L2
open PySem PySem.Spec PyProof.Rows
variable{A:Around}{R:Result->Shared->Prop}{s:Shared}{br iter:Expr}{ba:List Expr}{scope:Scope}{env:Env}
theorem z63{prog:Program}{w:World}{target:Expr}{pos:Pos}{it u:Value}(I:Nat->Shared->Prop)
  (turn:∀n s,I n s->wpAny (model prog w) A (pyNext it) (λr t=>match r with
   | none=>R (.ok .next) t
   | some v=>wpAny (model prog w) A (letOwnedTupleGo target it v) (λ_ a=>wpAny (model prog w) A (assign target env v) (λ_ i=>
     wpAny (model prog w) A (forIn ba true λc r=>if r=true then do let ok<-isTrue c env (eval c env);pure (ForInStep.yield ok)else pure (ForInStep.yield r)) (λok b=>
      if ok=true then wpAny (model prog w) A (eval br env) (λx f=>
       wpAny (model prog w) A (call (.builtin "list.append") [u,x]) (λ_ j=>∃m,m < n/\I m j) (notedBy (model prog w) A env λe s'=>R (.error e) s') f) (notedBy (model prog w) A env λe s'=>R (.error e) s') b
      else∃m,m < n/\I m b) (notedBy (model prog w) A env λe s'=>R (.error e) s') i) (notedBy (model prog w) A env λe s'=>R (.error e) s') a) (notedBy (model prog w) A env λe s'=>R (.error e) s') t) (notedBy (model prog w) A env λe s'=>R (.error e) s') s)
  (n:Nat) (h:I n s):
  codeAny (model prog w) A (.compLoop (.ListComp br [⟨target,iter,ba,0⟩] scope pos) 0 it u env) R s:=by
 refine codeAny_loop rfl I (λn s z=> ?_) n h
 show wpAny _ A ((compTurn (.ListComp br [⟨target,iter,ba,0⟩] scope pos) 0 it u env).onRaise (λx=>do noteFrame x env;theTreesLotGoes x)) _ _ s
 refine wpAny_noted ?_;rw [compTurn_list];refine wC (wpAny_standAt (wC (QR (turn n s z) (λr t y=> ?_) λ_ _ h'=>h')));cases r with
 | none=>exact qd y
 | some v=>
  refine wC (QR y (λ_ a l=> ?_) λ_ _ h'=>h');refine wC (QR l (λ_ i q=>wC (QR q (λok b d=> ?_) λ_ _ h'=>h')) λ_ _ h'=>h');cases ok with
  | false=>exact qd ⟨rfl,d⟩
  | true=>
   exact wC (wC (QR d (λx f p=>wC (QR p (λ_ j o=>qd (qd ⟨rfl,o⟩)) λ_ _ h'=>h')) λ_ _ h'=>h'))
noncomputable def z03(env:Env):List (Str×NameKind)->List (Str×Addr)->List (Str×Addr)
 | [],a=>a
 | (n,k) :: r,a=>z03 env r (if k == .free then(n,(env.cells.lookup n).getD 0) :: a else a)
theorem z88{env:Env}(f:Str×NameKind->List (Str×Addr)->Sem (ForInStep (List (Str×Addr))))
  (i:∀name kind cells,f (name,kind) cells=if kind == .free then(do let a<-cellOf env name;pure (.yield ((name,a) :: cells)))else pure (.yield cells)):
  ∀(names:List (Str×NameKind)) (b:List (Str×Addr)),(∀y∈names,y.2= .free->∃c,env.cells.lookup y.1=some c)->forIn names b f=(pure (z03 env names b):Sem (List (Str×Addr)))
 | [],b,_=>by rw [List.forIn_nil];rfl
 | (n,k) :: r,b,h=>by
  rw [List.forIn_cons,i];have j:=λb=>z88 f i r b λy l=>h y (wV _ l)
  unfold z03;cases hk:k == NameKind.free with
  | true=>
   obtain⟨c,hc⟩:=h (n,k) qF (Qt.mp hk);have e:cellOf env n=(pure c:Sem Addr):=by
    unfold cellOf;have d:env.cells.lookup n=some c:=hc;rw [d]
   have d:env.cells.lookup n=some c:=hc;simp only [w0S,e,pure_bind,d,Option.getD_some];exact j _
  | false=>
   simp only [Bool.false_eq_true,w0B,pure_bind];exact j _
theorem z02(h:∀y∈scope.names,y.2= .free->∃c,env.cells.lookup y.1=some c):closureFor scope env=pure (z03 env scope.names []):=by
 simp only [closureFor];rw [z88 (env:=env) _ (λname kind cells=>by cases hk:kind == NameKind.free <;> simp [hk]) scope.names [] h]
 rfl
theorem z3u{env:Env}:∀(names:List (Str×NameKind)) (b:List (Str×Addr)),(∀y∈names,y.2= .free->∃c,env.cells.lookup y.1=some c)->(∀y c,b.lookup y=some c->env.cells.lookup y=some c)->
  ∀y c,(z03 env names b).lookup y=some c->env.cells.lookup y=some c
 | [],_,_,ha=>ha
 | (n,k) :: r,b,h,ha=>by
  unfold z03;refine z3u r _ (λy a=>h y (wV _ a)) λy c e=> ?_
  cases hk:k == NameKind.free with
  | true=>
   rw [hk,wY rfl,qJ]at e;obtain⟨c',hc⟩:=h (n,k) qF (Qt.mp hk);have d:env.cells.lookup n=some c':=hc;cases a:y == n with
   | true=>
    rw [a]at e;rw [d]at e;cases e;rw [Qt.mp a];exact d
   | false=>
    rw [a]at e;exact ha y c e
  | false=>
   rw [hk,wU wT]at e;exact ha y c e
theorem z6P{env:Env}:∀(names:List (Str×NameKind)) (a:List (Str×Addr)) (y:Str),((y,NameKind.free)∈names\/∃c,a.lookup y=some c)->∃c,(z03 env names a).lookup y=some c
 | [],_,y,h=>by
  rcases h with h | h
  ·cases h
  ·exact h
 | (n,k) :: r,a,y,h=>by
  unfold z03;refine z6P r _ y ?_;rcases h with h | ⟨c,h⟩
  ·rcases wH.mp h with e | h
   ·cases e;refine .inr ?_;simp [qJ]
   ·exact .inl h
  ·refine .inr ?_;by_cases hk:(k == NameKind.free)=true
   ·rw [wY hk,qJ];cases y == n with
    | true=>exact⟨_,rfl⟩
    | false=>exact⟨c,h⟩
   ·rw [wU hk];exact⟨c,h⟩
theorem z3W:∀(names:List (Str×NameKind)) (h:Heap) (d:List (Str×Addr)) (y:Str) (c:Addr),(cellsFrom h.objs.size names d).lookup y=some c->
  ((pushCells h names).IsCell c none/\h.objs.size<=c/\(y,NameKind.cell)∈names)\/d.lookup y=some c
 | [],_,_,_,_,e=> .inr e
 | (n,k) :: r,h,d,y,c,e=>by
  unfold cellsFrom at e;unfold pushCells;by_cases hk:(k == NameKind.cell)=true
  ·rw [wY hk]at e ⊢;have f:(cellsFrom (h.push {cls:= .type "cell",data:= .cell none}).objs.size r ((n,h.objs.size) :: d)).lookup y=some c:=by rw [Qq];exact e
   rcases z3W r (h.push {cls:= .type "cell",data:= .cell none}) ((n,h.objs.size) :: d) y c f with⟨a1,a2,a3⟩ | a
   ·rw [Qq]at a2;exact .inl ⟨a1,by lia,wV _ a3⟩
   ·rw [qJ]at a;cases hy:y == n with
    | true=>
     rw [hy]at a;cases a;refine .inl ⟨Heap.IsCell.keeps ⟨_,qi _ rfl,rfl⟩ λb o q=>w0H r _ b o q,wu _,?_⟩;rw [Qt.mp hy,Qt.mp hk];exact qF
    | false=>
     rw [hy]at a;exact .inr a
  ·rw [wU hk]at e ⊢;rcases z3W r h d y c e with⟨a1,a2,a3⟩ | a
   ·exact .inl ⟨a1,a2,wV _ a3⟩
   ·exact .inr a
theorem z60:∀(names:List (Str×NameKind)) (n:Nat) (a:List (Str×Addr)) (y:Str),(y,NameKind.cell)∉names->(cellsFrom n names a).lookup y=a.lookup y
 | [],_,_,_,_=>rfl
 | (m,k) :: r,n,a,y,h=>by
  unfold cellsFrom;by_cases hk:(k == NameKind.cell)=true
  ·rw [wY hk,z60 r (n + 1) _ y λz=>h (wV _ z),qJ];have:(y == m)=false:=w0i.mpr λz=>h (by rw [z,Qt.mp hk];exact qF)
   rw [this]
  ·rw [wU hk];exact z60 r n a y λz=>h (wV _ z)
theorem z7R:∀(names:List (Str×NameKind)) (n:Nat) (a:List (Str×Addr)) (y:Str),((y,NameKind.cell)∈names\/∃c,a.lookup y=some c)->∃c,(cellsFrom n names a).lookup y=some c
 | [],_,_,_,h=>by
  rcases h with h | h
  ·cases h
  ·exact h
 | (m,k) :: r,n,a,y,h=>by
  unfold cellsFrom;by_cases hk:(k == NameKind.cell)=true
  ·rw [wY hk];refine z7R r (n + 1) _ y ?_;rcases h with h | ⟨c,h⟩
   ·rcases wH.mp h with e | h
    ·cases e;exact .inr ⟨n,by simp [qJ]⟩
    ·exact .inl h
   ·refine .inr ?_;rw [qJ];cases y == m with
    | true=>exact⟨_,rfl⟩
    | false=>exact⟨c,h⟩
  ·rw [wU hk];refine z7R r n a y ?_;rcases h with h | h
   ·rcases wH.mp h with e | h
    ·cases e;exact absurd rfl hk
    ·exact .inl h
   ·exact .inr h
theorem z7F:∀(names:List (Str×NameKind)) (n:Nat) (a:List (Str×Addr)),(∀y c,a.lookup y=some c->c < n)->(∀y z c,a.lookup y=some c->a.lookup z=some c->y=z)->
  ∀y z c,(cellsFrom n names a).lookup y=some c->(cellsFrom n names a).lookup z=some c->y=z
 | [],_,_,_,hi=>hi
 | (m,k) :: r,n,a,f,hi=>by
  unfold cellsFrom;by_cases hk:(k == NameKind.cell)=true
  ·rw [wY hk];refine z7F r (n + 1) _ (λy c e=> ?_) λy z c d b=> ?_
   ·rw [qJ]at e;cases hy:y == m with
    | true=>rw [hy]at e;cases e;exact w05 n
    | false=>rw [hy]at e;exact Qd (f y c e)
   ·rw [qJ]at d b;cases hy:y == m with
    | true=>
     rw [hy]at d;cases d;cases hz:z == m with
     | true=>rw [Qt.mp hy,Qt.mp hz]
     | false=>rw [hz]at b;exact absurd (f z n b) (QC _)
    | false=>
     rw [hy]at d;cases hz:z == m with
     | true=>rw [hz]at b;cases b;exact absurd (f y n d) (QC _)
     | false=>rw [hz]at b;exact hi y z c d b
  ·rw [wU hk];exact z7F r n a f hi
theorem z3z{M:Model}{E:Value->Shared->Prop}{globals:Addr}{cl:List (Str×Addr)}{qual:Str}{Q:Env->Shared->Prop}
  (a:Q {scope:=scope,locals:=s.heap.objs.size,globals:=globals,cells:=cellsFrom (s.heap.push {cls:= .type "dict",data:= .dict #[]}).objs.size scope.names cl,qual:=qual,func:=none,code:=env.code,frame:=env.frame,builtins:=env.builtins}
   {s with heap:=pushCells (s.heap.push {cls:= .type "dict",data:= .dict #[]}) scope.names}):
  wpAny M A (newFunctionEnv scope globals cl [] qual none .none (some env)) Q E s:=by
 simp only [newFunctionEnv,Option.isSome_some,w0S];refine wC (wpAny_alloc ?_);refine wC (wpAny_layCells _ (λname kind cells=>by cases fM:kind == NameKind.cell <;> simp [fM]) _ _ _ _ ?_);rw [List.forIn_nil];exact wC (qd (qd a))
noncomputable abbrev j7(X:Cx)(scope:Scope)(a:List Str)(C:Addr)(cells:List (Str×Addr))(s₀:Shared)(H₀:Hp)(ex:List Addr)(pins:List (Addr×Obj)):Cx:=
 {prog:=X.prog,w:=X.w,K:=X.K,mg:=X.mg,base:=X.base,A:=X.A,N:=a,s₀:=s₀,H₀:=H₀,env:=compEnvC scope cells C X.env,outer:=X.stack,stack:=X.stack,ex:=ex,fn:=λy=>decide ((y,NameKind.cell)∈scope.names),calm:=X.calm,pn:=X.pn ++ pins,xe:=λ_ _=>False}
structure CompSc(X:Cx)(scope:Scope)(x:Str)(fr:List Str)(ix:List Nat):Prop where
 kind:scope.kind= .function
 names:∀y∈scope.names,y.2= .local->scope.names.lookup y.1=some .local
 uniq:(scope.names.map (·.1)).Nodup
 xloc:scope.names.lookup x=some .local\/scope.names.lookup x=some .cell
 clo:∀y∈scope.names,y.2= .free->X.env.kindOf y.1=some .cell\/X.env.kindOf y.1=some .free
 free:∀(k:Nat) (y:Str),fr[k]? =some y->∃j,ix[k]? =some j/\X.N[j]? =some y/\scope.names.lookup y=some .free
 nd:(x :: fr).Nodup
 len:fr.length=ix.length
noncomputable def sub(σ:St)(ix:List Nat)(x:Option V):St:=x :: ix.map λj=>(σ[j]?).getD none
def z72(X:Cx)(ba:List Expr)(t:TT):Prop:=
 ∀(pins:List (Addr×Obj)) (s:Shared) (σ:St) (H:Hp) (Q:Bool->Hp->Prop),Inv X pins σ H s->t σ H Q->
  wpAny (model X.prog X.w) X.A (forIn ba true λc r=>if r=true then do let ok<-isTrue c X.env (eval c X.env);pure (ForInStep.yield ok)else pure (ForInStep.yield r)) (TP X pins σ Q) X.xe s
def z8T:TT:=λ_ H Q=>Q true H
variable{X:Cx}
def jZ:z72 X [] z8T:=λ_ _ _ H _ I h=>wpAny_tests_nil ⟨H,I,h⟩
def z0s{c:Expr}{t:TT}(h:PT X c t):z72 X [c] t:=λpins s σ H Q I q=>wpAny_tests_one (h pins s σ H Q I q)
theorem ym{env:Env}:∀{names:List (Str×NameKind)} {y:Str} {k:NameKind},names.lookup y=some k->
  (names.map λ(n,k)=>if(k == NameKind.free && env.scope.kind == .function && env.kindOf n == some .cell)then(n,NameKind.cell)else(n,k)).lookup y=some (if(k == NameKind.free && env.scope.kind == .function && env.kindOf y == some .cell)then NameKind.cell else k)
 | [],_,_,h=>by simp at h
 | (n,k') :: r,y,k,h=>by
  rw [qJ]at h;rw [qK];cases hy:y == n with
  | true=>
   rw [hy]at h;cases h;have e:y=n:=Qt.mp hy;subst e;by_cases hc:(k' == NameKind.free && env.scope.kind == .function && env.kindOf y == some .cell)=true
   ·simp only [hc,w0S,qJ,w06]
   ·simp only [hc,w0B,qJ,w06];simp
  | false=>
   rw [hy]at h;have a:=ym (env:=env) (names:=r) h;by_cases hc:(k' == NameKind.free && env.scope.kind == .function && env.kindOf n == some .cell)=true
   ·simp only [hc,w0S,qJ,hy];exact a
   ·show List.lookup y ((if(k' == NameKind.free && env.scope.kind == .function && env.kindOf n == some .cell)=true then(n,NameKind.cell)else(n,k')) :: _)=_
    rw [wU hc,qJ,hy];exact a
theorem z5v:∀{names:List (Str×NameKind)} {y:Str} {k:NameKind},
  (names.map λ(n,k)=>if(k == NameKind.free && env.scope.kind == .function && env.kindOf n == some .cell)then(n,NameKind.cell)else(n,k)).lookup y=some k->∃k',names.lookup y=some k'/\k=(if(k' == NameKind.free && env.scope.kind == .function && env.kindOf y == some .cell)then NameKind.cell else k')
 | names,y,k,h=>by
  cases e:names.lookup y with
  | some k'=>
   have:=ym (env:=env) e;rw [this]at h;exact⟨k',rfl,(Option.some.inj h).symm⟩
  | none=>
   exfalso
   induction names with
   | nil=>simp at h
   | cons p r a=>
    obtain⟨n,k'⟩:=p;rw [qJ]at e;cases hy:y == n with
    | true=>rw [hy]at e;cases e
    | false=>
     rw [hy]at e;refine a ?_ e;rw [qK]at h;by_cases hc:(k' == NameKind.free && env.scope.kind == .function && env.kindOf n == some .cell)=true
     ·simpa only [hc,w0S,qJ,hy]using h
     ·simpa [hc,qJ,hy]using h
def lookup_mem{α:Type}{l:List (Str×α)}{n:Str}{c:α}(h:l.lookup n=some c):(n,c)∈l:=Qm h
theorem z7t:∀(names:List (Str×NameKind)) (n:Nat) (a:List (Str×Addr)) (y:Str) (c:Addr),(y,NameKind.cell)∈names->(cellsFrom n names a).lookup y=some c->n<=c
 | [],_,_,_,_,h,_=>by cases h
 | (m,k) :: r,n,a,y,c,h,e=>by
  unfold cellsFrom at e;by_cases hr:(y,NameKind.cell)∈r
  ·by_cases hk:(k == NameKind.cell)=true
   ·rw [wY hk]at e;exact Nat.le_of_succ_le (z7t r (n + 1) _ y c hr e)
   ·rw [wU hk]at e;exact z7t r n a y c hr e
  ·rcases wH.mp h with q | q
   ·cases q;rw [wY (w06 _),z60 r (n + 1) _ _ hr,qJ,w06]at e;cases e;exact wu _
   ·exact absurd q hr
theorem z5e:∀{names:List (Str×NameKind)} {y:Str} {k k':NameKind},(names.map (·.1)).Nodup->names.lookup y=some k->(y,k')∈names->k=k'
 | [],_,_,_,_,h,_=>by simp at h
 | (n,kk) :: r,y,k,k',hn,h,hm=>by
  rw [qK]at hn;obtain⟨h1,h2⟩:=w0l.mp hn;rw [qJ]at h;cases hy:y == n with
  | true=>
   rw [hy]at h;cases h;rcases wH.mp hm with e | hm
   ·cases e;rfl
   ·exact absurd (qI.mpr ⟨_,hm,rfl⟩) (by rw [Qt.mp hy];exact h1)
  | false=>
   rw [hy]at h;rcases wH.mp hm with e | hm
   ·cases e;rw [w06]at hy;cases hy
   ·exact z5e h2 h hm
variable{pins:List (Addr×Obj)}{H:Hp}{x:Str}{fr:List Str}{ix:List Nat}{fp:List Addr}
section
variable{σ:St}
noncomputable abbrev jn:Obj:={cls:= .type "list",data:= .seq ([]:List Value).toArray}
noncomputable abbrev z04:Obj:={cls:= .type "dict",data:= .dict #[]}
theorem zby{σ4:St}{f:Hp}{d:Shared}{cells:List (Str×Addr)}{G:List Str}{C D:Addr}{pl:List (Addr×Obj)}{its:List Value}{ys:List V}{k:Nat}{h':Heap}(I:Inv X pins σ H s)(K:∀b∈fp,z3O X pins H b)
  (j:Inv (j7 X scope G C cells s H fp pins) pl σ4 f d) (x:s.heap.objs.size<=D) (L:s.heap.objs.size<=C) (y:D≠C) (t:f D=none) (N:d.heap.get? D=some {cls:= .type "list",data:= .seq its.toArray k}) (r:zQ ys its) (hz:ys.length<=sizeLine)
  (M:Heap.SameBut C d.heap h'):Inv X pins σ (upd f D (.lst ys)) {d with heap:=h'}:=by
 have u:Un (frs X.stack) fp H f s.heap d.heap:=j.base;have ne:∀b o,s.heap.get? b=some o->b≠C/\b≠D:=λb o e=>by
  have:=wN e;exact⟨qe (wZ this L),qe (wZ this x)⟩
 have l:H D=none:=I.hok.fresh x;have p:f C=none:=j.free;have i:∀b,b≠C->h'.get? b=d.heap.get? b:=λb a=>M.2 b a
 have B:Un (frs X.stack) fp H (upd f D (.lst ys)) s.heap h':=by
  refine⟨λb o e n a h=> ?_,λb o e n a h=> ?_,λb o e n h=> ?_,λb o e h=> ?_,λb xs e=> ?_,λb o w e=> ?_,λb ps e=> ?_⟩
  ·rw [i b (ne b o e).1];exact u.keep b o e n a h
  ·rw [i b (ne b o e).1];exact u.slot b o e n a h
  ·rw [zn (ne b o e).2];exact u.free b o e n h
  ·rw [i b (ne b o e).1];exact u.there b o e h
  ·rw [zn (zy e l)];exact u.tups b xs e
  ·rw [zn (zy e l)];exact u.frzs b o w e
  ·rw [zn (zy e l)];exact u.tbls b ps e
 have hok:HOk X.prog X.w (upd f D (.lst ys)) h':=λb o e=>by
  by_cases a:b=D
  ·subst a;rw [zl]at e;cases e;exact⟨hz,its,k,r,(i b y).trans N⟩
  ·rw [zn a]at e;refine(j.hok b o e).stay (λc v hc q=> ?_) (λc q=> ?_) λc xs q=> ?_
   ·have F:c≠C:=by
     rintro rfl;rcases hc with z | z
     ·rw [<-z,p]at e;cases e
     ·rw [p]at z;cases z
    exact(i c F).trans q
   ·rw [zn (zy q t)];exact q
   ·rw [zn (zy q t)];exact q
 exact I.call' (s':={d with heap:=h'}) (ch:=fp) j.os B hok j.bare λb a=>by
  obtain⟨_,f1,_,E,A,J⟩:=K b a;exact⟨E,f1,A,J⟩
end
def z0G(J:It)(σ:St)(ix:List Nat)(tc:TT)(te:TE)(Q:List V->Hp->Prop)(H1:Hp):Prop:=
 ∃W:Nat->Nat->List V->Hp->Prop,(∃m,W 0 m [] H1)/\∀i m ys H,W i m ys H->ys.length < sizeLine/\
  ((J.stop i H/\Q ys H)\/(J.go i H/\∃(d:V->Hp->Prop) (e:Hp->Prop),(∀y c,d y c->∃a,a < m/\W (i + 1) a (ys ++ [y]) c)/\(∀H2,e H2->∃a,a < m/\W (i + 1) a ys H2)/\
   ∀x H',J.yld i H x H'->tc (sub σ ix (some x)) H' λb H2=>if b=true then te (sub σ ix (some x)) H2 d else e H2))
structure CompScG(X:Cx)(scope:Scope)(xs:List Str)(fr:List Str)(ix:List Nat):Prop where
 kind:scope.kind= .function
 names:∀y∈scope.names,y.2= .local->scope.names.lookup y.1=some .local
 uniq:(scope.names.map (·.1)).Nodup
 clo:∀y∈scope.names,y.2= .free->X.env.kindOf y.1=some .cell\/X.env.kindOf y.1=some .free
 free:∀(k:Nat) (y:Str),fr[k]? =some y->∃j,ix[k]? =some j/\X.N[j]? =some y/\scope.names.lookup y=some .free
 nd:(xs ++ fr).Nodup
 len:fr.length=ix.length
noncomputable def z77(σ:St)(ix:List Nat)(a:List (Option V)):St:=a ++ ix.map λj=>(σ[j]?).getD none
noncomputable def z6K(sx:Scope)(NX:List Str)(scope:Scope)(xs fr:List Str)(ix:List Nat):Bool:=
 (scope.kind == .function) && scope.names.all (λy=>y.2 != .local || scope.names.lookup y.1 == some .local) && decide ((scope.names.map (·.1)).Nodup) &&
 scope.names.all (λy=>y.2 != .free || (sx.names.lookup y.1 == some .cell || sx.names.lookup y.1 == some .free)) &&
 decide (fr.length=ix.length) && decide ((xs ++ fr).Nodup) && (fr.zip ix).all λp=>NX[p.2]? == some p.1 && scope.names.lookup p.1 == some .free
variable{xs:List Str}
theorem CompScG.of{sx:Scope}{NX:List Str}(hs:X.env.scope=sx)(f:X.N=NX)(h:z6K sx NX scope xs fr ix=true):CompScG X scope xs fr ix:=by
 simp only [z6K,Q2,decide_eq_true_eq,Qt,qQ,Bool.or_eq_true,bne_iff_ne,ne_eq]at h;obtain⟨⟨⟨⟨⟨⟨h1,h2⟩,j⟩,l⟩,c⟩,i⟩,d⟩:=h;refine⟨h1,λy b a=> ?_,j,λy b a=> ?_,λk y e=> ?_,i,c⟩
 ·rcases h2 y b with q | q
  ·exact absurd a q
  ·exact q
 ·show X.env.scope.names.lookup y.1=_\/X.env.scope.names.lookup y.1=_
  rw [hs];rcases l y b with q | q
  ·exact absurd a q
  ·exact q
 ·have a:k < ix.length:=by rw [<-c];exact(wk.mp e).1
  have hz:(fr.zip ix)[k]? =some (y,ix[k]):=by
   rw [List.getElem?_zip_eq_some];exact⟨e,we a⟩
  obtain⟨a1,a2⟩:=d _ (qA hz);exact⟨ix[k],we a,by rw [f];exact a1,a2⟩
section
variable{σ:St}
theorem z7O(S:CompScG X scope xs fr ix)(I:Inv X pins σ H s)(G:∀b∈fp,z3O X pins H b)(P:∀b∈fp,b < s.heap.objs.size):
  Inv (j7 X scope (xs ++ fr) (s.heap.push jn).objs.size (cellsFrom ((s.heap.push jn).push z04).objs.size scope.names (z03 X.env scope.names [])) s H fp pins) [] (z77 σ ix (List.replicate xs.length none)) H
   {s with heap:=pushCells ((s.heap.push jn).push z04) scope.names}:=by
 have Z:∀y∈scope.names,y.2= .free->∃c,X.env.cells.lookup y.1=some c:=λy h hk=>I.ok.has y.1 (S.clo y h hk)
 have A:∀y c,(z03 X.env scope.names []).lookup y=some c->X.env.cells.lookup y=some c:=z3u scope.names [] Z λy c e=>by simp at e
 have D:∀y,(y,NameKind.free)∈scope.names->∃c,(z03 X.env scope.names []).lookup y=some c:=λy h=>z6P scope.names [] y (.inl h)
 have O:∀y c,(z03 X.env scope.names []).lookup y=some c->c < s.heap.objs.size:=λy c e=>by
  obtain⟨v,q⟩:=I.cell y c (A y c e);exact q.lt
 have x:(s.heap.push jn).objs.size=s.heap.objs.size + 1:=Qq ..;have F:((s.heap.push jn).push z04).objs.size=s.heap.objs.size + 2:=by rw [Qq,x]
 have up:∀b o,s.heap.get? b=some o->(pushCells ((s.heap.push jn).push z04) scope.names).get? b=some o:=λb o e=>w0H _ _ b o (wo _ (wo _ e))
 have E:∀y c,(cellsFrom ((s.heap.push jn).push z04).objs.size scope.names (z03 X.env scope.names [])).lookup y=some c->
   ((pushCells ((s.heap.push jn).push z04) scope.names).IsCell c none/\s.heap.objs.size + 2<=c/\(y,NameKind.cell)∈scope.names)\/X.env.cells.lookup y=some c:=λy c e=>by
  rcases z3W scope.names ((s.heap.push jn).push z04) (z03 X.env scope.names []) y c e with⟨a1,a2,a3⟩ | a
  ·rw [F]at a2;exact .inl ⟨a1,a2,a3⟩
  ·exact .inr (A y c a)
 have ok:(j7 X scope (xs ++ fr) (s.heap.push jn).objs.size (cellsFrom ((s.heap.push jn).push z04).objs.size scope.names (z03 X.env scope.names [])) s H fp pins).Ok:=by
  refine⟨I.ok.mod,S.kind,I.ok.glob,I.ok.blt,?_,?_,?_,?_,I.ok.hd,I.ok.frames,.inl rfl,?_,I.bs,wW I.ok.bsz I.sz,?_,?_,I.stack,I.stkFree⟩
  ·show s.heap.objs.size<=(s.heap.push jn).objs.size
   rw [x]
   lia
  ·exact z7F scope.names _ _ (λy c e=>by rw [F];exact wZ (O y c e) (Nat.le_add_right _ 2)) λy z c w f=>I.ok.inj y z c (A y c w) (A z c f)
  ·intro y h;refine z7R scope.names _ _ y ?_;have fJ:(relabel scope X.env).names.lookup y=some .cell\/(relabel scope X.env).names.lookup y=some .free:=h;rcases fJ with fJ | fJ
   ·obtain⟨k',e,l⟩:=z5v fJ;by_cases hc:(k' == NameKind.free && X.env.scope.kind == .function && X.env.kindOf y == some .cell)=true
    ·rw [Q2,Q2]at hc;have f:=Qt.mp hc.1.1;subst f;exact .inr (D y (lookup_mem e))
    ·rw [wU hc]at l;subst l;exact .inl (lookup_mem e)
   ·obtain⟨k',e,l⟩:=z5v fJ;by_cases hc:(k' == NameKind.free && X.env.scope.kind == .function && X.env.kindOf y == some .cell)=true
    ·rw [wY hc]at l;cases l
    ·rw [wU hc]at l;subst l;exact .inr (D y (lookup_mem e))
  ·intro y c h e;have hm:(y,NameKind.cell)∈scope.names:=qD h;have:=z7t scope.names _ _ y c hm e
   show s.heap.objs.size<=c
   rw [F]at this
   lia
  ·intro b r;have L:=P b r;refine⟨?_,λy c e=> ?_⟩
   ·show b≠(s.heap.push jn).objs.size
    rw [x];exact qe (Qd L)
   ·rcases E y c e with⟨_,a2,_⟩ | a
    ·exact QN (wZ L (wW (Nat.le_add_right _ 2) a2))
    ·exact(G b r).2.2.2.2.1 y c a
  ·intro b o e r;obtain⟨_,_,_,f3,_⟩:=G b r;rcases f3 with f3 | f3
   ·exact I.ok.noex b o e f3
   ·exact absurd (wZ (wN e) (wW I.ok.bsz f3)) (QC _)
  ·intro b r z;obtain⟨_,f1,f2,_⟩:=G b r;rcases wH.mp (I.stkSub b z)with e | e
   ·exact f1 e
   ·exact f2 e
 refine⟨ok,rfl,I.bare,Un.kept up,⟨_,(Heap.Ns.new (s.heap.push jn) (.type "dict")).keeps (w0H _ _),λi y v w f e3=> ?_⟩,λy c e=> ?_,?_,λy c e=> ?_,λp hp=> ?_,I.hok.kept up,?_⟩
 ·have f:(List.replicate xs.length none ++ ix.map λj=>(σ[j]?).getD none)[i]? =some (some v):=f;have w:(xs ++ fr)[i]? =some y:=w;by_cases bU:i < xs.length
  ·rw [qU (by rw [w0v];exact bU),List.getElem?_replicate,wY bU]at f;cases f
  ·obtain⟨k,rfl⟩:∃k,i=xs.length + k:=⟨i - xs.length,by lia⟩
   have N:fr[k]? =some y:=by rw [qS (by lia),Nat.add_sub_cancel_left]at w;exact w
   have J:(ix.map λj=>(σ[j]?).getD none)[k]? =some (some v):=by rw [qS (by rw [w0v];lia),w0v,Nat.add_sub_cancel_left]at f;exact f
   obtain⟨j,T,Q,B⟩:=S.free k y N;rw [wQ,T]at J;have C:(σ[j]?).getD none=some v:=Option.some.inj J;have Y:σ[j]? =some (some v):=by
    cases q:σ[j]? with
    | none=>rw [q]at C;cases C
    | some o=>rw [q]at C;exact Qj some C
   have hk:=S.clo (y,NameKind.free) (lookup_mem B) rfl;obtain⟨m,hn,hl⟩:=I.loc;obtain⟨u,R,t⟩:=hl j y v Q Y (.inr hk);refine⟨u,R,.inr ⟨?_,?_⟩⟩
   ·have q:=ym (env:=X.env) B
    show(relabel scope X.env).names.lookup y=_\/(relabel scope X.env).names.lookup y=_
    rw [show(relabel scope X.env).names.lookup y=_ from q];by_cases hc:(NameKind.free == NameKind.free && X.env.scope.kind == .function && X.env.kindOf y == some .cell)=true
    ·rw [wY hc];exact .inl rfl
    ·rw [wU hc];exact .inr rfl
   ·rcases t with⟨t,_⟩ | ⟨_,c,hc,aG⟩
    ·rcases hk with hk | hk
     ·rw [show X.env.kindOf y=_ from hk]at t;cases t
     ·rw [show X.env.kindOf y=_ from hk]at t;cases t
    ·refine⟨c,?_,aG.keeps up⟩;have M:(y,NameKind.cell)∉scope.names:=λz=>by
      have:=z5e S.uniq B z;cases this
     show(cellsFrom _ scope.names _).lookup y=some c
     rw [z60 scope.names _ _ y M];obtain⟨c',K⟩:=D y (lookup_mem B);have:=A y c' K;rw [hc]at this;cases this;exact K
 ·rcases E y c e with⟨a1,_,_⟩ | a
  ·exact⟨none,a1⟩
  ·obtain⟨v,q⟩:=I.cell y c a;exact⟨v,q.keeps up⟩
 ·show H (s.heap.push jn).objs.size=none
  exact I.hok.fresh (by rw [x];lia)
 ·rcases E y c e with⟨_,a2,_⟩ | a
  ·exact I.hok.fresh (by lia)
  ·exact I.freeC y c a
 ·have aa:p∈X.pn ++ pins:=by simpa using hp
  obtain⟨e,n,ne,nf,d⟩:=I.pin p aa;have U:=wN e;refine⟨up _ _ e,n,?_,λz=> ?_,d⟩
  ·show p.1≠(s.heap.push jn).objs.size
   rw [x];exact qe (Qd U)
  ·rcases wH.mp (I.stkSub p.1 z)with q | q
   ·exact ne q
   ·exact nf q
 ·show(z77 σ ix (List.replicate xs.length none)).length=(xs ++ fr).length
  unfold z77;rw [wg,w9,wg,S.len,w0v]
end
def z22(J:It)(g:TG)(tc:TT)(te:TE)(Q:List V->Hp->Prop)(σ0:St)(H1:Hp):Prop:=
 ∃(d:St->Prop) (W:Nat->Nat->List V->Hp->Prop),d σ0/\(∃m,W 0 m [] H1)/\∀i m ys σ H,d σ->W i m ys H->ys.length < sizeLine/\
  ((J.stop i H/\Q ys H)\/(J.go i H/\∃(e:V->Hp->Prop) (f:Hp->Prop),(∀y a,e y a->∃c,c < m/\W (i + 1) c (ys ++ [y]) a)/\(∀H2,f H2->∃c,c < m/\W (i + 1) c ys H2)/\
   ∀x H',J.yld i H x H'->g x σ H' λσ2 H2=>d σ2/\tc σ2 H2 λb a=>if b=true then te σ2 a e else f a))
variable{Q:List V->Hp->Prop}{wi:TI}{tc:TT}{te:TE}{J:It}{j:Nat}{y:Str}{py bV:Pos}
section
variable{tg:Expr}{g:TG}{pos:Pos}
theorem z4F{σ:St}{it:Addr}{tn:Nat->Heap->Prop}(hc:X.calm=true)(S:CompScG X scope xs fr ix)
  (dG:∀C cells s₀ H₀ ex pins,PE (j7 X scope (xs ++ fr) C cells s₀ H₀ ex pins) br te) (dH:∀C cells s₀ H₀ ex pins,z72 (j7 X scope (xs ++ fr) C cells s₀ H₀ ex pins) ba tc)
  (fP:∀C cells s₀ H₀ ex pins,PG (j7 X scope (xs ++ fr) C cells s₀ H₀ ex pins) tg g) (I:Inv X pins σ H s) (T:Turn X.prog X.w X.K tg J fp it tn) (st:tn 0 s.heap) (bS:∀b∈fp,z3O X pins H b) (h:z22 J g tc te Q (z77 σ ix (List.replicate xs.length none)) H)
  (hR:∀t ys H4,(∃m,t.heap.Ns (s.heap.push jn).objs.size m)->Q ys H4->H4 s.heap.objs.size=none->H4 (s.heap.push jn).objs.size=none->(∀h',Heap.SameBut (s.heap.push jn).objs.size t.heap h'->Inv X pins σ (upd H4 s.heap.objs.size (.lst ys)) {t with heap:=h'})->R (.ok .next) t):
  codeAny (model X.prog X.w) X.A (.compLoop (.ListComp br [⟨tg,iter,ba,0⟩] scope pos) 0 (.ref it) (.ref s.heap.objs.size)
   (compEnvC scope (cellsFrom ((s.heap.push jn).push z04).objs.size scope.names (z03 X.env scope.names [])) (s.heap.push jn).objs.size X.env)) R {s with heap:=pushCells ((s.heap.push jn).push z04) scope.names}:=by
 obtain⟨Sh,W,vo,⟨m0,w0⟩,turn⟩:=h;have Y:∀b∈fp,b < s.heap.objs.size:=λb f=>by
  obtain⟨o,e,_⟩:=T.obj 0 _ st b f;exact wN e
 have I0:=z7O S I bS Y;have z1:(s.heap.push jn).objs.size=s.heap.objs.size + 1:=Qq ..;have up:∀b o,s.heap.get? b=some o->(pushCells ((s.heap.push jn).push z04) scope.names).get? b=some o:=λb o e=>w0H _ _ b o (wo _ (wo _ e))
 have rW:(pushCells ((s.heap.push jn).push z04) scope.names).get? s.heap.objs.size=some {cls:= .type "list",data:= .seq ([]:List Value).toArray}:=
  w0H _ _ _ _ (wo _ (qi _ rfl))
 have bt:∀y∈scope.names,y.2= .free->∃c,X.env.cells.lookup y.1=some c:=λy hy hk=>I.ok.has y.1 (S.clo y hy hk)
 have cD:∀y c,(cellsFrom ((s.heap.push jn).push z04).objs.size scope.names (z03 X.env scope.names [])).lookup y=some c->c≠s.heap.objs.size:=λy c e=>by
  rcases z3W scope.names ((s.heap.push jn).push z04) (z03 X.env scope.names []) y c e with⟨_,a2,_⟩ | a
  ·rw [Qq,z1]at a2;exact QN (wZ (Qd (w05 _)) a2)
  ·obtain⟨v,q⟩:=I.cell y c (z3u scope.names [] bt (λy c e=>by simp at e) y c a);exact qe q.lt
 generalize cellsFrom ((s.heap.push jn).push z04).objs.size scope.names (z03 X.env scope.names [])=cells at I0 cD ⊢;generalize hCe:(s.heap.push jn).objs.size=C at I0 hR z1 ⊢;generalize hDe:s.heap.objs.size=D at z1 rW cD Y hR ⊢;have md:D≠C:=by lia
 have j:s.heap.objs.size<=D:=by lia
 have L:s.heap.objs.size<=C:=by lia
 have vp:∀p∈X.pn ++ pins,p.1≠D:=λp hp=>by
  have:=wN (I.pin p hp).1;exact qe (hDe ▸ this)
 have ae:D∉frs X.stack:=λz=>by
  rcases wH.mp (I.stkSub D z)with e | e
  ·have:=I.lt;rw [<-e,hDe]at this;exact QC _ this
  ·exact I.nofs j e
 refine z63 (λn s'=>∃i ys its k M H',Inv (j7 X scope (xs ++ fr) C cells s H fp pins) [] M H' s'/\tn i s'.heap/\(∀b∈fp,H' b=none)/\s'.heap.get? D=some {cls:= .type "list",data:= .seq its.toArray k}/\H' D=none/\zQ ys its/\Sh M/\W i n ys H') ?_ m0
  ⟨0,[],[],0,_,H,I0,T.keep _ _ _ st λb f o e=>up b o e,λb f=>(bS b f).1,rW,I.hok.fresh j,.nil,vo,w0⟩
 rintro n s3 ⟨i,ys,its,k,M,E,I3,aE,hV,vq,nO,Z,vt,w3⟩;obtain⟨ce,i7⟩:=turn i n ys M E vt w3;have hlen:=Z.length;have N:D≠(j7 X scope (xs ++ fr) C cells s H fp pins).env.locals:=md;have O:Inv (j7 X scope (xs ++ fr) C cells s H fp pins) [(D,{cls:= .type "list",data:= .seq its.toArray k})] M E s3:=I3.pins_of λp hp=>by
  rw [wz.mp hp];exact⟨vq,nO,N,ae,λv z=>by cases z⟩
 have nP:∀{H':Hp},(∀b∈fp,H' b=none)->∀b∈fp,z3O (j7 X scope (xs ++ fr) C cells s H fp pins) [(D,{cls:= .type "list",data:= .seq its.toArray k})] H' b:=λ{H'} hn b f=>by
  obtain⟨e1,e2⟩:=I3.ok.exf b f;refine⟨hn b f,e1,I3.ok.exfs b f,.inl f,e2,λp hp=> ?_⟩;rcases wA.mp hp with hp | hp
  ·exact(bS b f).2.2.2.2.2 p hp
  ·rw [wz.mp hp];have:=Y b f;exact QN this
 rcases i7 with⟨stop,q⟩ | ⟨go,NY,NN,vv,vw,step⟩
 ·refine thn (T.done (j7 X scope (xs ++ fr) C cells s H fp pins) rfl rfl rfl hc i _ s3 _ E _ O (nP hV) aE stop) ?_;rintro r t ⟨hr,P⟩;subst hr;have vx:=(P.pin (D,{cls:= .type "list",data:= .seq its.toArray k}) (wG _ (wz.mpr rfl))).1;obtain⟨m,hn,_⟩:=P.loc;exact hR t ys E ⟨m,hn⟩ q nO P.free λh' sb=>zby I bS P j L md nO vx Z (w1E ce) sb
 ·refine thn (T.item (j7 X scope (xs ++ fr) C cells s H fp pins) rfl rfl rfl hc i _ s3 _ E _ O (nP hV) aE go) ?_;rintro r t ⟨u,hr,h4⟩;subst hr;refine thn h4 ?_;rintro _ s5 ⟨v,H5,I5,r5,y5,fH,nH⟩;have ai:=I5.pinned (nP nH) (T.obj _ _ fH);refine QR (fP C cells s H fp pins _ s5 _ H5 v u _ ai r5 (step v H5 y5)) (?_) λ_ _ z=>z.elim
  rintro _ s6 ⟨σ6,H6,I6,rX,q6⟩;refine QR (dH C cells s H fp pins _ s6 _ H6 _ I6 q6) (?_) λ_ _ z=>z.elim
  rintro b s7 ⟨H7,I7,U⟩;have rY:∀{B:Hp} {l:Shared} {σ8:St},Inv (j7 X scope (xs ++ fr) C cells s H fp pins) ([(D,{cls:= .type "list",data:= .seq its.toArray k})] ++ z4P fp s5.heap) σ8 B l->tn (i + 1) l.heap/\(∀b∈fp,B b=none)/\l.heap.get? D=some {cls:= .type "list",data:= .seq its.toArray k}/\B D=none:=λ{B l σ8} x=>by
   refine⟨T.keep _ _ _ fH λb f o e=>(x.pin (b,o) (wG _ (wG _ (z1k f e)))).1,λb f=> ?_,?_,?_⟩
   ·obtain⟨o,e,d⟩:=T.obj _ _ fH b f;exact(x.pin (b,o) (wG _ (wG _ (z1k f e)))).2.1
   ·exact(x.pin (D,{cls:= .type "list",data:= .seq its.toArray k}) (wG _ (qc _ (wz.mpr rfl)))).1
   ·exact(x.pin (D,{cls:= .type "list",data:= .seq its.toArray k}) (wG _ (qc _ (wz.mpr rfl)))).2.1
  cases b with
  | false=>
   rw [wU wT]at U ⊢;obtain⟨m',hm,w7⟩:=vw _ U;obtain⟨t1,t2,G,t4⟩:=rY I7;exact⟨m',hm,i + 1,ys,its,k,σ6,H7,I7.pins_of λp hp=>(by cases hp),t1,t2,G,t4,Z,rX,w7⟩
  | true=>
   rw [wY rfl]at U ⊢;refine QR (dG C cells s H fp pins _ s7 _ H7 _ I7 U) (?_) λ_ _ z=>z.elim
   rintro y l ⟨w,B,x,r8,q8⟩;obtain⟨m',hm,w8⟩:=vv _ _ q8;obtain⟨t1,t2,G,t4⟩:=rY x;refine call_meets F.slot_list_append ⟨_,G,rfl⟩ F.entry_list_append (F.args_list_append_2 _ _) (PySem.list_append D its.toArray k y (by rw [wB];lia)) ⟨G,?_⟩;obtain⟨k9,vy⟩:∃k9,(l.heap.update D (Obj.mapSeq (·.push y))).get? D=some {cls:= .type "list",data:= .seq (its ++ [y]).toArray k9}:=⟨_,by
    rw [show(its ++ [y]).toArray=its.toArray.push y by simp];exact PySem.IsL.update G (·.push y)⟩
   have ac:Inv (j7 X scope (xs ++ fr) C cells s H fp pins) [] σ6 B l:=x.pins_of λp hp=>(by cases hp)
   have I9:=Inv.turned (it:=D) (t':=l.toks) (h':=l.heap.update D (Obj.mapSeq (·.push y))) ac (λb o f e=>(Q9 l.heap _ (w1p f)).trans e) t4 N (.inr j) cD (λp hp=>vp p (by simpa using hp));exact⟨m',hm,i + 1,ys ++ [w],its ++ [y],k9,σ6,B,I9,T.keep _ _ _ t1 λb f o e=>(Q9 l.heap _ (QN (Y b f))).trans e,t2,vy,t4,Z.append (.cons r8 .nil),rX,w8⟩
theorem zaQ{R:VK->St->It->Hp->Prop}(conv:∀Q σ J H1,R Q σ J H1->z22 J g tc te (λys H2=>∀p,H2 p=none->Q (.ref p) (upd H2 p (.lst ys))) (z77 σ ix (List.replicate xs.length none)) H1)(hc:X.calm=true)(S:CompScG X scope xs fr ix)(hi:PI X tg iter wi)(l:∀C cells s₀ H₀ ex pins,PG (j7 X scope (xs ++ fr) C cells s₀ H₀ ex pins) tg g)
  (n:∀C cells s₀ H₀ ex pins,z72 (j7 X scope (xs ++ fr) C cells s₀ H₀ ex pins) ba tc) (u:∀C cells s₀ H₀ ex pins,PE (j7 X scope (xs ++ fr) C cells s₀ H₀ ex pins) br te)
  (hs:∀x,foldedSetIterable iter X.env x=pure x:=by intro _;rfl):PE X (.ListComp br [⟨tg,iter,ba,0⟩] scope pos) (λσ H Q=>wi σ H λJ H1=>R Q σ J H1):=by
 intro pins s σ H Q I h;rw [eval_ListComp];have B:∀y∈scope.names,y.2= .free->∃c,X.env.cells.lookup y.1=some c:=λy j r=>I.ok.has y.1 (S.clo y j r)
 refine wpAny_comprehension_free (use:=none) rfl hs (z02 B) S.kind S.names (thn (hi pins s σ H _ I h) λv s1 h1=>thn h1 λG s2 h2=> ?_);obtain⟨it,fp,tn,J,H2,rfl,t,T,d,f2,f⟩:=h2;refine w0G (z3z ?_);have z:tn 0 (pushCells ((s2.heap.push jn).push z04) scope.names):=T.keep _ _ _ d λb a o e=>w0H _ _ b o (wo _ (wo _ e))
 have loop:=z4F (iter:=iter) (pos:=pos) (R:=compPost (model X.prog X.w) X.A X.xe none (EP X pins σ Q) (.ref s2.heap.objs.size) (s2.heap.push jn).objs.size) hc S u n l t T d f2 (conv _ _ _ _ f)
  (λF ys K ⟨m,hn⟩ q i E a=>⟨m,hn,λh' D=>⟨.ref s2.heap.objs.size,_,a h' D,rfl,q _ i⟩⟩)
 exact codeAny_compStart_list loop (T.self _ _ _ _ _ z loop)
def z9C(j:Nat)(wi:TI)(n:Nat)(ix:List Nat)(g:TG)(tc:TT)(te:TE):TS:=λD σ H=>wi σ H λJ H1=>z22 J g tc te (λys H2=>∀p,H2 p=none->D.nx (σ.set j (some (.ref p))) (upd H2 p (.lst ys))) (z77 σ ix (List.replicate n none)) H1
theorem z3y{R:Ends->St->It->Hp->Prop}(conv:∀D σ J H1,R D σ J H1->z22 J g tc te (λys H2=>∀p,H2 p=none->D.nx (σ.set j (some (.ref p))) (upd H2 p (.lst ys))) (z77 σ ix (List.replicate xs.length none)) H1)(hc:X.calm=true)(hN:X.N.Nodup)(hj:X.N[j]? =some y)(l:Loc X.env.scope y)(S:CompScG X scope xs fr ix)(hi:PI X tg iter wi)(fP:∀C cells s₀ H₀ ex pins,PG (j7 X scope (xs ++ fr) C cells s₀ H₀ ex pins) tg g)
  (G:∀C cells s₀ H₀ ex pins,z72 (j7 X scope (xs ++ fr) C cells s₀ H₀ ex pins) ba tc) (P:∀C cells s₀ H₀ ex pins,PE (j7 X scope (xs ++ fr) C cells s₀ H₀ ex pins) br te)
  (hs:∀x,foldedSetIterable iter X.env x=pure x:=by intro _;rfl)
  (i8:swapsWith (.ListComp br [⟨tg,iter,ba,0⟩] scope pos) (some (.Name y py)) bV.line X.env=pure true:=by rfl)
  (Y:X.fn y=true\/X.env.scope.names.lookup y=some .local:=by first | exact .inl rfl | exact .inr rfl | assumption):
  PS X (.Assign [.Name y py] (.ListComp br [⟨tg,iter,ba,0⟩] scope pos) bV) (λD σ H=>wi σ H λJ H1=>R D σ J H1):=by
 intro pins s σ H D I h;rw [exec_Assign_Name_used _ _ _ _ i8];refine wC (wpAny_standAt (wC ?_))
 show wpAny _ X.A (do let _<-comprehension (.ListComp br [⟨tg,iter,ba,0⟩] scope pos) scope X.env _ (newList []) false (eval iter X.env) (some (assign (.Name y py) X.env))) _ _ s
 have U:∀y∈scope.names,y.2= .free->∃c,X.env.cells.lookup y.1=some c:=λy l hk=>I.ok.has y.1 (S.clo y l hk)
 refine wC (QR (wpAny_comprehension_free (use:=some (assign (.Name y py) X.env)) (Q:=λ_ s'=>SP X pins D .next s') rfl hs (z02 U) S.kind S.names
  (thn (hi pins s σ H _ I h) λv s1 h1=>thn h1 λlZ s2 h2=> ?_)) (λ_ s' hq=>qd (qd hq)) λ_ _ e=>e)
 obtain⟨it,fp,tn,J,H2,rfl,d,T,B,f2,Z⟩:=h2;refine w0G (z3z ?_);have L:tn 0 (pushCells ((s2.heap.push jn).push z04) scope.names):=T.keep _ _ _ B λb i o e=>w0H _ _ b o (wo _ (wo _ e))
 have f:(s2.heap.push jn).objs.size=s2.heap.objs.size + 1:=Qq ..;have loop:=z4F (iter:=iter) (pos:=pos) (R:=compPost (model X.prog X.w) X.A X.xe (some (assign (.Name y py) X.env)) (λ_ s'=>SP X pins D .next s') (.ref s2.heap.objs.size) (s2.heap.push jn).objs.size) hc S P G fP d T B f2 (conv _ _ _ _ Z)
  (λn ys F ⟨m,hn⟩ q nD t i=>by
   have K:Inv X pins σ (upd F s2.heap.objs.size (.lst ys)) n:=i n.heap (Heap.SameBut.refl ..);have E:(s2.heap.push jn).objs.size≠X.env.locals:=by rw [f];exact QN (Qd d.lt)
   have u:∀z c,X.env.cells.lookup z=some c->c≠(s2.heap.push jn).objs.size:=λz c e=>by
    obtain⟨v,w⟩:=d.cell z c e;rw [f];exact qe (Qd w.lt)
   show wpAny _ X.A (assign (.Name y py) X.env (.ref s2.heap.objs.size)) _ _ n
   refine wpAny_assign_Name (z5A (v:= .ref s2.heap.objs.size) K hN hj l rfl (?_) Y);rintro M I6 ⟨a,sa,ha⟩;have aC:(s2.heap.push jn).objs.size≠a:=by
    rcases ha with e | e
    ·rw [e];exact E
    ·exact(u _ _ e).symm
   refine⟨m,hn.sameBut sa aC,λh6 r=> ?_⟩;have nC:upd F s2.heap.objs.size (.lst ys) (s2.heap.push jn).objs.size=none:=by
    rw [zn (by rw [f];exact Nat.succ_ne_self _)];exact t
   have O:=Inv.turned (it:=(s2.heap.push jn).objs.size) (t':=M.toks) (h':=h6) I6 (λb o i e=>(r.2 b i).trans e) nC E (.inr (by rw [f];exact Nat.le_succ_of_le d.sz)) u (λp hp=>by
    rw [f];exact qe (Qd (wN (d.pin p hp).1)))
   exact⟨_,_,O,q _ nD⟩)
 exact codeAny_compStart_list loop (T.self _ _ _ _ _ L loop)
theorem z6E(hc:X.calm=true)(c:X.N.Nodup)(d:X.N[j]? =some y)(b:Loc X.env.scope y)(S:CompScG X scope xs fr ix)(hi:PI X tg iter wi)(e:∀C cells s₀ H₀ ex pins,PG (j7 X scope (xs ++ fr) C cells s₀ H₀ ex pins) tg g)
  (i:∀C cells s₀ H₀ ex pins,z72 (j7 X scope (xs ++ fr) C cells s₀ H₀ ex pins) ba tc) (l:∀C cells s₀ H₀ ex pins,PE (j7 X scope (xs ++ fr) C cells s₀ H₀ ex pins) br te)
  (hs:∀x,foldedSetIterable iter X.env x=pure x:=by intro _;rfl)
  (f:swapsWith (.ListComp br [⟨tg,iter,ba,0⟩] scope pos) (some (.Name y py)) bV.line X.env=pure true:=by rfl)
  (a:X.fn y=true\/X.env.scope.names.lookup y=some .local:=by first | exact .inl rfl | exact .inr rfl | assumption):
  PS X (.Assign [.Name y py] (.ListComp br [⟨tg,iter,ba,0⟩] scope pos) bV) (z9C j wi xs.length ix g tc te):=z3y (λ_ _ _ _ h=>h) hc c d b S hi e i l hs f a
end
section
variable{px:Pos}{pos:Pos}
theorem CompSc.g(S:CompSc X scope x fr ix):CompScG X scope [x] fr ix:=⟨S.kind,S.names,S.uniq,S.clo,S.free,S.nd,S.len⟩
theorem CompSc.pg(S:CompSc X scope x fr ix)(C:Addr)(cells:List (Str×Addr))(s₀:Shared)(H₀:Hp)(ex:List Addr)(pins:List (Addr×Obj)):PG (j7 X scope ([x] ++ fr) C cells s₀ H₀ ex pins) (.Name x px) (z1Z 0):=by
 rcases S.xloc with h | h
 ·have a:(j7 X scope ([x] ++ fr) C cells s₀ H₀ ex pins).env.scope.names.lookup x=some .local:=ym (env:=X.env) h;exact z0I (i:=0) S.nd rfl (.inl a) (.inr a)
 ·have a:(j7 X scope ([x] ++ fr) C cells s₀ H₀ ex pins).env.scope.names.lookup x=some .cell:=ym (env:=X.env) h;exact z0I (i:=0) S.nd rfl (.inr a) (.inl (wS (Qm h)))
theorem z8N{σ:St}{H1:Hp}(h:z0G J σ ix tc te Q H1):z22 J (z1Z 0) tc te Q (z77 σ ix (List.replicate 1 none)) H1:=by
 obtain⟨W,w0,hs⟩:=h;refine⟨λσ'=>∃a,σ'=sub σ ix a,W,⟨none,rfl⟩,w0,?_⟩;rintro i m ys _ H ⟨a,rfl⟩ w;obtain⟨l,o⟩:=hs i m ys H w;exact⟨l,o.imp id λ⟨g,c,e,b,d,t⟩=>⟨g,c,e,b,d,λx H' y=>⟨⟨some x,rfl⟩,t x H' y⟩⟩⟩
def zfb(wi:TI)(ix:List Nat)(tc:TT)(te:TE):TE:=λσ H Q=>wi σ H λJ H1=>z0G J σ ix tc te (λys H2=>∀p,H2 p=none->Q (.ref p) (upd H2 p (.lst ys))) H1
theorem yI(hc:X.calm=true)(S:CompSc X scope x fr ix)(hi:PI X (.Name x px) iter wi)
  (a:∀C cells s₀ H₀ ex pins,z72 (j7 X scope (x :: fr) C cells s₀ H₀ ex pins) ba tc) (b:∀C cells s₀ H₀ ex pins,PE (j7 X scope (x :: fr) C cells s₀ H₀ ex pins) br te)
  (hs:∀x,foldedSetIterable iter X.env x=pure x:=by intro _;rfl):PE X (.ListComp br [⟨.Name x px,iter,ba,0⟩] scope pos) (zfb wi ix tc te):=zaQ (xs:= [x]) (R:=λQ σ J H1=>z0G J σ ix tc te (λys H2=>∀p,H2 p=none->Q (.ref p) (upd H2 p (.lst ys))) H1) (λ_ _ _ _ h=>z8N h) hc S.g hi S.pg a b hs
def zb8(j:Nat)(wi:TI)(ix:List Nat)(tc:TT)(te:TE):TS:=λD σ H=>wi σ H λJ H1=>z0G J σ ix tc te (λys H2=>∀p,H2 p=none->D.nx (σ.set j (some (.ref p))) (upd H2 p (.lst ys))) H1
theorem jG(hc:X.calm=true)(c:X.N.Nodup)(d:X.N[j]? =some y)(b:Loc X.env.scope y)(S:CompSc X scope x fr ix)(hi:PI X (.Name x px) iter wi)
  (f:∀C cells s₀ H₀ ex pins,z72 (j7 X scope (x :: fr) C cells s₀ H₀ ex pins) ba tc) (i:∀C cells s₀ H₀ ex pins,PE (j7 X scope (x :: fr) C cells s₀ H₀ ex pins) br te)
  (hs:∀x,foldedSetIterable iter X.env x=pure x:=by intro _;rfl)
  (e:swapsWith (.ListComp br [⟨.Name x px,iter,ba,0⟩] scope pos) (some (.Name y py)) bV.line X.env=pure true:=by rfl)
  (a:X.fn y=true\/X.env.scope.names.lookup y=some .local:=by first | exact .inl rfl | exact .inr rfl | assumption):
  PS X (.Assign [.Name y py] (.ListComp br [⟨.Name x px,iter,ba,0⟩] scope pos) bV) (zb8 j wi ix tc te):=z3y (xs:= [x]) (R:=λD σ J H1=>z0G J σ ix tc te (λys H2=>∀p,H2 p=none->D.nx (σ.set j (some (.ref p))) (upd H2 p (.lst ys))) H1) (λ_ _ _ _ h=>z8N h) hc c d b S.g hi S.pg f i hs e a
end
end L2

namespace L2
open PySem PySem.Spec PyProof.Rows
noncomputable def z5K(sx:Scope)(NX:List Str)(scope:Scope)(x:Str)(fr:List Str)(ix:List Nat):Bool:=
 (scope.kind == .function) && scope.names.all (λy=>y.2 != .local || scope.names.lookup y.1 == some .local) && decide ((scope.names.map (·.1)).Nodup) &&
 (scope.names.lookup x == some .local || scope.names.lookup x == some .cell) && scope.names.all (λy=>y.2 != .free || (sx.names.lookup y.1 == some .cell || sx.names.lookup y.1 == some .free)) &&
 decide (fr.length=ix.length) && decide ((x :: fr).Nodup) && (fr.zip ix).all λp=>NX[p.2]? == some p.1 && scope.names.lookup p.1 == some .free
variable{X:Cx}{x:Str}{fr:List Str}{ix:List Nat}{scope:Scope}{NX:List Str}
theorem CompSc.of{sx:Scope}(hs:X.env.scope=sx)(i:X.N=NX)(h:z5K sx NX scope x fr ix=true):CompSc X scope x fr ix:=by
 simp only [z5K,Q2,decide_eq_true_eq,Qt,qQ,Bool.or_eq_true,bne_iff_ne,ne_eq]at h;obtain⟨⟨⟨⟨⟨⟨⟨h1,h2⟩,l⟩,f⟩,n⟩,c⟩,j⟩,d⟩:=h;refine⟨h1,λy b a=> ?_,l,f,λy b a=> ?_,λk y e=> ?_,j,c⟩
 ·rcases h2 y b with q | q
  ·exact absurd a q
  ·exact q
 ·show X.env.scope.names.lookup y.1=_\/X.env.scope.names.lookup y.1=_
  rw [hs];rcases n y b with q | q
  ·exact absurd a q
  ·exact q
 ·have a:k < ix.length:=by rw [<-c];exact(wk.mp e).1
  have hz:(fr.zip ix)[k]? =some (y,ix[k]):=by
   rw [List.getElem?_zip_eq_some];exact⟨e,we a⟩
  obtain⟨a1,a2⟩:=d _ (qA hz);exact⟨ix[k],we a,by rw [i];exact a1,a2⟩
noncomputable def zd5(scope sx:Scope):Scope:=
 {scope with names:=scope.names.map λ(n,k)=>if(k == .free && sx.kind == .function && sx.names.lookup n == some .cell)then(n,.cell)else(n,k)}
theorem CompSc.of2{a sx:Scope}{b:List Str}{C:Addr}{cells:List (Str×Addr)}{s₀:Shared}{H₀:Hp}{ex:List Addr}{pins:List (Addr×Obj)}(hs:X.env.scope=sx)(c:b=NX)(h:z5K (zd5 a sx) NX scope x fr ix=true):
  CompSc (j7 X a b C cells s₀ H₀ ex pins) scope x fr ix:=by
 refine CompSc.of (sx:=zd5 a sx) ?_ c h;subst hs
 rfl
variable{a:Addr}{xs:List V}{tc:TT}{te:TE}{Q:List V->Hp->Prop}{H:Hp}{σ:St}
theorem kI{K:W.Frag}(c:Nat->List V->Hp->Prop)(h0:c 0 [] H)(hl:∀i ys H,i<=xs.length->c i ys H->SqL K H a xs/\ys.length < sizeLine)
  (hs:∀(i:Nat) x ys H,xs[i]? =some x->c i ys H->tc (sub σ ix (some x)) H λb H2=>if b=true then te (sub σ ix (some x)) H2 λy d=>c (i + 1) (ys ++ [y]) d else c (i + 1) ys H2) (hd:∀ys H,c xs.length ys H->Q ys H):z0G (Itl K a) σ ix tc te Q H:=by
 refine⟨λi m ys H=>m=xs.length - i/\i<=xs.length/\c i ys H,⟨_,rfl,Q6 _,h0⟩,?_⟩;rintro i m ys H ⟨rfl,hi,p⟩;obtain⟨q,hz⟩:=hl i ys H hi p;refine⟨hz,?_⟩;by_cases ag:i < xs.length
 ·refine .inr ⟨⟨xs,xs[i],q,by simp [ag]⟩,λy d=>c (i + 1) (ys ++ [y]) d,λH2=>c (i + 1) ys H2,λy d z=>⟨xs.length - (i + 1),by lia,rfl,ag,z⟩,λH2 z=>⟨xs.length - (i + 1),by lia,rfl,ag,z⟩,λx H' y=> ?_⟩;obtain⟨e,y⟩:=y;subst e;exact hs i x ys _ (y xs q) p
 ·have e:i=xs.length:=by lia
  subst e;exact .inl ⟨⟨xs,q,wu _⟩,hd ys H p⟩
variable{lo:Int}{n:Nat}
theorem z4j(a:Nat->List V->Hp->Prop)(h0:a 0 [] H)(hl:∀i ys H,i<=n->a i ys H->ys.length < sizeLine)
  (hs:∀(i:Nat) ys H,i < n->a i ys H->tc (sub σ ix (some (.int (lo + i)))) H λb H2=>if b=true then te (sub σ ix (some (.int (lo + i)))) H2 λy c=>a (i + 1) (ys ++ [y]) c else a (i + 1) ys H2) (hd:∀ys H,a n ys H->Q ys H):z0G (Itr lo n) σ ix tc te Q H:=by
 refine⟨λi m ys H=>m=n - i/\i<=n/\a i ys H,⟨_,rfl,Q6 _,h0⟩,?_⟩;rintro i m ys H ⟨rfl,hi,p⟩;refine⟨hl i ys H hi p,?_⟩;by_cases ag:i < n
 ·refine .inr ⟨ag,λy c=>a (i + 1) (ys ++ [y]) c,λH2=>a (i + 1) ys H2,λy c z=>⟨n - (i + 1),by lia,rfl,ag,z⟩,λH2 z=>⟨n - (i + 1),by lia,rfl,ag,z⟩,λx H' y=> ?_⟩;obtain⟨e,y⟩:=y;subst e y;exact hs i ys _ ag p
 ·have e:i=n:=by lia
  subst e;exact .inl ⟨wu _,hd ys H p⟩
def jH{K:W.Frag}(b:Nat->List V->Hp->Prop)(h0:b 0 [] H)(hl:∀i ys H,i<=xs.length->b i ys H->SqL K H a xs/\ys.length < sizeLine)
  (hs:∀(i:Nat) x ys H,xs[i]? =some x->b i ys H->te (sub σ ix (some x)) H λy c=>b (i + 1) (ys ++ [y]) c) (hd:∀ys H,b xs.length ys H->Q ys H):z0G (Itl K a) σ ix z8T te Q H:=
 kI b h0 hl (λi x ys H e p=>z9L (A:=te (sub σ ix (some x)) H λy c=>b (i + 1) (ys ++ [y]) c) (B:=b (i + 1) ys H) (hs i x ys H e p)) hd
def z1O(a:Nat->List V->Hp->Prop)(h0:a 0 [] H)(hl:∀i ys H,i<=n->a i ys H->ys.length < sizeLine)
  (hs:∀(i:Nat) ys H,i < n->a i ys H->te (sub σ ix (some (.int (lo + i)))) H λy b=>a (i + 1) (ys ++ [y]) b) (hd:∀ys H,a n ys H->Q ys H):z0G (Itr lo n) σ ix z8T te Q H:=
 z4j a h0 hl (λi ys H e p=>z9L (A:=te (sub σ ix (some (.int (lo + i)))) H λy b=>a (i + 1) (ys ++ [y]) b) (B:=a (i + 1) ys H) (hs i ys H e p)) hd
theorem z8H:∀(us:List Value) (ss:List Str),us.length=ss.length->(∀(j:Nat) (u:Value),us[j]? =some u->∃x t,ss[j]? =some x/\u=Value.str x t)->StrsAre us ss
 | [],[],_,_=> .nil
 | [],_ :: _,h,_=>by simp at h
 | _ :: _,[],h,_=>by simp at h
 | u :: us,s :: ss,h,a=>by
  obtain⟨x,t,c,f⟩:=a 0 u rfl;have d:s=x:=Option.some.inj c;subst d f;exact .cons _ _ (z8H us ss (by simpa using h) λj b e=>a (j + 1) b e)
def z5C:∀{us:List Value} {ss:List Str},StrsAre us ss->zQ (ss.map V.str) us
 | _,_,.nil=> .nil
 | _,_,.cons _ t r=> .cons ⟨t,rfl⟩ (z5C r)
theorem z4S(hc:X.calm=true):kj X (.builtin "sorted") (λxs H Q=>∃d kvs ss,xs= [.ref d]/\H d=some (.dK kvs)/\kvs.map (·.1)=ss.map Sum.inr/\kvs.length < 64/\
  ∀l f,H l=none->f.Perm ss->sortedS f=true->Q (.ref l) (upd H l (.lst (f.map V.str)))):=by
 intro pins s σ H xs us Q I r h;obtain⟨d,kvs,ss,rfl,hd,S,nQ,q⟩:=h;obtain⟨u,rfl,O⟩:=vals1 r;cases O;obtain⟨hz,N,vs,rel,m⟩:kvs.length<=sizeLine/\(d == sysModules)=false/\∃vs,KV kvs vs/\s.heap.DictOf (jE X.prog X.w) d vs:=I.hok d _ hd
 obtain⟨ep,R⟩:=m.dictAt;have hlen:kvs.length=vs.length:=Paired.length rel;have C:vs.map (·.1)=ss.map Sum.inr:=(KV.keys rel).symm.trans S;have K:vs.length=ss.length:=by
  have:=Qj List.length C
  rwa [w9,w9]at this
 refine Calls.call_function_entry kind_sorted plain_sorted entry_sorted (args_sorted1 _) ?_;unfold Builtin.«sorted»;refine wC (m:=checkCount "sorted" 1 1 _) (qd ?_);refine wC (PySem.W.kdu_collect (A:=X.A.in1) (PySem.W.kdl_dict (knd:=jE X.prog X.w) (kvs:=vs) (ep:=ep) N) (I.ok.hd hc) R (by lia) λh' tk c P T=> ?_);obtain⟨U,Z⟩:=T;have hl:c.toList.length=ss.length:=by rw [w0K,U,K]
 have p:StrsAre c.toList ss:=z8H _ _ hl λj u e=>by
  obtain⟨k,x,hx,M⟩:=Z j u (by rw [<-Array.getElem?_toList];exact e);have G:j < ss.length:=by rw [<-hl];exact(wk.mp e).1
  have J:(vs.map (·.1))[j]? =some k:=by rw [wQ,hx];rfl
  rw [C,wQ,we G]at J;have e2:(Sum.inr ss[j]:Key)=k:=Option.some.inj J;subst e2;rcases jN (show z4L (Sum.inr ss[j]) u=true from M)with⟨i,t,e3,_⟩ | ⟨y,t,e3,e4⟩
  ·cases e3
  ·cases e3;exact⟨_,t,we G,e4⟩
 have nS:c.toList.length < 64:=by lia
 have D:Inv X pins σ H {s with heap:=h',toks:=tk}:=I.kept P;refine wC (wpAny_newList ?_ (je (by lia)));have n:(h'.push (seqObj "list" c.toList.toArray 0)).get? h'.objs.size=some (seqObj "list" c.toList.toArray 0):=qi _ rfl;refine wC (QV (wpAny_call_entry slot_list_sort ⟨_,n,rfl⟩ entry_list_sort (list_sort_treeK strKind_oneLt n p.keysOf (λE F rest e=>keyKind_strs (by rw [<-e];exact p)) nS λz a1 a2=>⟨_,rfl,?_⟩) (args_list_sort _)));refine qd ⟨_,rfl,?_⟩;obtain⟨f,b1,b2,L⟩:=sorted_out_str p a1 a2;obtain⟨e,Y⟩:=sortedHeap_at (out:=(arrOf z).map (·.2)) n;refine⟨.ref h'.objs.size,upd H h'.objs.size (.lst (f.map V.str)),?_,rfl,q _ f D.fresh b2 L⟩;refine D.laid (a:=h'.objs.size) (t':=tk) (λb o e=> ?_) (wu _) ⟨?_,_,e,z5C b1,?_⟩
 ·have B:=wN e;rw [sortedHeap_old (qe B) (by rw [Qq];exact Qd B)];exact wo _ e
 ·rw [w9,b2.length_eq];exact je (by lia)
 ·show(sortedHeap (h'.push (seqObj "list" c.toList.toArray 0)) h'.objs.size c.toList ((arrOf z).map (·.2))).get? h'.objs.size=some (seqObj "list" ((arrOf z).map (·.2)).toList.toArray e)
  rw [Array.toArray_toList];exact Y
def leS(a b:Str):Prop:=¬b.cps.toList < a.cps.toList
def z9x{a b c:Str}(h1:leS a b)(h2:leS b c):leS a c:=List.le_trans (α:=Nat) h1 h2
theorem za9{a b:Str}(h:(!ltCps b.cps.toList a.cps.toList)=true):leS a b:=by
 rw [ltCps_eq,Bool.not_eq_true',decide_eq_false_iff_not]at h;exact h
theorem z5h:∀(p:Str) (l:List Str),risingS p l=true->(p :: l).Pairwise leS
 | p,[],_=>List.pairwise_singleton _ _
 | p,x :: r,h=>by
  rw [show risingS p (x :: r)=(!ltCps x.cps.toList p.cps.toList && risingS x r)from rfl,Q2]at h;have a:=z5h x r h.2;refine List.pairwise_cons.mpr ⟨λy hy=> ?_,a⟩;rcases wH.mp hy with e | hy
  ·rw [e];exact za9 h.1
  ·exact z9x (za9 h.1) (List.rel_of_pairwise_cons a hy)
def z9j:∀{l:List Str},sortedS l=true->l.Pairwise leS
 | [],_=> .nil
 | x :: r,h=>z5h x r h
theorem yZ{α:Type} [DecidableEq α]:∀{l us:List α},l.Nodup->(∀x∈l,x∈us)->l.length<=us.length
 | [],_,_,_=>Q6 _
 | x :: l,us,hn,hs=>by
  obtain⟨h1,h2⟩:=w0l.mp hn;have a:x∈us:=hs x qF;have c:=yZ (l:=l) (us:=us.erase x) h2 λy b=>(List.mem_erase_of_ne (λe=>h1 (by rw [<-e];exact b))).mpr (hs y (wV _ b))
  rw [List.length_erase_of_mem a]at c;have:0 < us.length:=List.length_pos_of_mem a;rw [wP]
  lia
def z2Q{i:Nat}{v:V}{Q:St->Hp->Prop}(h:Q (σ.set i (some v)) H):z1Z i v σ H Q:=h
def z45{t u:TS}{D:Ends}(h:t {D with nx:=u D} σ H):z2R t u D σ H:=h
variable{t:TA}{es:List Expr}
section
variable{K:W.Frag}
theorem kB(h:X.K=K):IxR X (zdK K):=by subst h;exact z8x
theorem kc(h:X.K=K):IxR X (zdL K):=by subst h;exact zaS
theorem z4I(h:X.K=K):OpR X (compareOp .In) (rIn K false):=by subst h;exact yk
theorem z4Z(h:X.K=K):OpR X (compareOp .NotIn) (rIn K true):=by subst h;exact yr
theorem z2j(h:X.K=K):kj X (.type "list") (λxs H Q=>∃p ys,xs= [.ref p]/\(SqL K H p ys\/SqT K H p ys)/\∀l,H l=none->Q (.ref l) (upd H l (.lst ys))):=by subst h;exact yo
theorem z6h(h:X.K=K):kj X (.builtin "isinstance") (λxs H Q=>∃x n t b,xs= [x,.ty n]/\TyOf K H x t/\PySem.W.kitOne K t (.type n)=some b/\Q (.bl b) H):=by subst h;exact zS
theorem z9w(h:X.K=K):MtM X "list.index" (za5 K):=by subst h;exact z0D
theorem z75{tg l:Expr}{tl:TE}(h:X.K=K)(hl:PE X l tl):PI X tg l (zcY K tl):=by subst h;exact jb hl
theorem zdQ{o e:Expr}{to:TE}{name:Str}{apos af:Pos}{T id:String}{r:V->List V->Hp->VK->Prop}(h:X.K=K)(c:PlainAttrs T)(slot:Slot T name id)(f:typeOf (.builtin id)=pure (.type "method_descriptor"))(hm:MtR X id r)(i:PE X o to)(ha:PA X (e :: es) t)
  (j:attributeBase o name X.env (eval o X.env)=eval o X.env:=by rfl)
  (a:((backTo af (starEach (e :: es) X.env)).all (λx=> !x.1) && (backToKw af (keywordEach [] X.env)).all (λx=>x.1.isSome)
   && decide ((e :: es).length + ([]:List Keyword).length + (if([]:List Keyword).isEmpty then 0 else 1) < 30))=true:=by rfl)
  (b:(apos.endLine == af.line)=true:=by rfl) (hs:starEach (e :: es) X.env=(false,eval e X.env) :: starEach es X.env:=by rfl) (d:(backTo af (starEach es X.env)).any (·.1)=false:=by rfl):
  PE X (.Call (.Attribute o name apos) (e :: es) [] af) (tBM K T r to t):=by
 subst h;exact z1z c slot f hm i ha j a b hs d
end
def zo{a b c}(ha:PE X (.Constant a b c) te)(hr:PA X es t):PA X (.Constant a b c :: es) (z1N te t):=zO ha hr
def zf{a b}(ha:PE X (.Name a b) te)(hr:PA X es t):PA X (.Name a b :: es) (z1N te t):=zO ha hr
def zH{a b c}(ha:PE X (.Tuple a b c) te)(hr:PA X es t):PA X (.Tuple a b c :: es) (z1N te t):=zO ha hr
def yy{a b c d}(ha:PE X (.BinOp a b c d) te)(hr:PA X es t):PA X (.BinOp a b c d :: es) (z1N te t):=zO ha hr
def zj{a b c}(ha:PE X (.Subscript a b c) te)(hr:PA X es t):PA X (.Subscript a b c :: es) (z1N te t):=zO ha hr
def zX{a b c d}(ha:PE X (.Call a b c d) te)(hr:PA X es t):PA X (.Call a b c d :: es) (z1N te t):=zO ha hr
def jM{a b}(ha:PE X (.List a b) te)(hr:PA X es t):PA X (.List a b :: es) (z1N te t):=zO ha hr
def zc5{a b c}(ha:PE X (.UnaryOp a b c) te)(hr:PA X es t):PA X (.UnaryOp a b c :: es) (z1N te t):=zO ha hr
def zbN{a b c d}(ha:PE X (.Compare a b c d) te)(hr:PA X es t):PA X (.Compare a b c d :: es) (z1N te t):=zO ha hr
def z1u{a b c d}(ha:PE X (.ListComp a b c d) te)(hr:PA X es t):PA X (.ListComp a b c d :: es) (z1N te t):=zO ha hr
theorem z40{a b:Int}{k1 k2}{c p2 d:Pos}(hc:zeW a b):PE X (.BinOp (.Constant (.int a) k1 c) .Pow (.Constant (.int b) k2 p2) d) (tC (.int (a ^ b.toNat))):=by
 intro pins s σ H Q I h;exact(zr zdy zd zd) pins s σ H Q I ⟨a,b,rfl,rfl,hc,h⟩
end L2

namespace L2
open PySem PySem.Spec PyProof.Rows
def tL:List (W.Frag->TS)->W.Frag->TS
 | [],_=>z4a
 | a :: b,K=>z2R (a K) (tL b K)
structure NmF(a b:W.Frag->TS):Prop where
 e:∀K,a K=b K
structure ClF(a:W.Frag->TS)(bs:List (W.Frag->TS)):Prop where
 e:∀K,a K=tL bs K
variable{D:Ends}{H:Hp}
section
variable{a a' b b1 b2:W.Frag->TS}{bs bh du:List (W.Frag->TS)}{c:W.Frag->TT}{wi:W.Frag->TI}{g:W.Frag->TG}
theorem zdA:ClF (λ_=>z4a) []:=⟨λ_=>rfl⟩
theorem zbJ(h0:NmF a a')(h2:ClF b bs):ClF (λK=>z2R (a K) (b K)) (a' :: bs):=⟨λK=>by show z2R (a K) (b K)=z2R (a' K) (tL bs K);rw [h0.e,h2.e]⟩
theorem zdl(h0:NmF a a'):ClF a [a']:=⟨λK=>by rw [h0.e];rfl⟩
theorem zf7(h1:ClF b1 bh)(h2:ClF b2 du)(h:NmF (λK=>z7l (c K) (tL bh K) (tL du K)) a'):NmF (λK=>z7l (c K) (b1 K) (b2 K)) a':=⟨λK=>by rw [h1.e,h2.e];exact h.e K⟩
theorem zdE(h1:ClF b1 bh)(h2:ClF b2 du)(h:NmF (λK=>zb0 (c K) (tL bh K) (tL du K)) a'):NmF (λK=>zb0 (c K) (b1 K) (b2 K)) a':=⟨λK=>by rw [h1.e,h2.e];exact h.e K⟩
theorem zbw(h1:ClF b1 bh)(h:NmF (λK=>z1s (c K) (tL bh K)) a'):NmF (λK=>z1s (c K) (b1 K)) a':=⟨λK=>by rw [h1.e];exact h.e K⟩
theorem zdo(h1:ClF b1 bh)(h:NmF (λK=>z9X (wi K) (g K) (tL bh K)) a'):NmF (λK=>z9X (wi K) (g K) (b1 K)) a':=⟨λK=>by rw [h1.e];exact h.e K⟩
theorem jq{K:W.Frag}{σ:St}{t:W.Frag->TS}(e:ClF t bs)(h:tL bs K D σ H):∀a,K=a->t a D σ H:=by
 rintro _ rfl;rw [e.e];exact h
end
def tL2:List (W.Frag->Addr->TS)->W.Frag->Addr->TS
 | [],_,_=>z4a
 | a :: b,K,A=>z2R (a K A) (tL2 b K A)
structure NmF2(a b:W.Frag->Addr->TS):Prop where
 e:∀K A,a K A=b K A
structure ClF2(a:W.Frag->Addr->TS)(bs:List (W.Frag->Addr->TS)):Prop where
 e:∀K A,a K A=tL2 bs K A
section
variable{a a' b b1 b2:W.Frag->Addr->TS}{bs bh du:List (W.Frag->Addr->TS)}{c:W.Frag->Addr->TT}{wi:W.Frag->Addr->TI}{g:W.Frag->Addr->TG}
theorem zcu:ClF2 (λ_ _=>z4a) []:=⟨λ_ _=>rfl⟩
theorem zaF(h0:NmF2 a a')(h2:ClF2 b bs):ClF2 (λK A=>z2R (a K A) (b K A)) (a' :: bs):=⟨λK A=>by show z2R (a K A) (b K A)=z2R (a' K A) (tL2 bs K A);rw [h0.e,h2.e]⟩
theorem zc4(h0:NmF2 a a'):ClF2 a [a']:=⟨λK A=>by rw [h0.e];rfl⟩
theorem zdS(h1:ClF2 b1 bh)(h2:ClF2 b2 du)(h:NmF2 (λK A=>z7l (c K A) (tL2 bh K A) (tL2 du K A)) a'):NmF2 (λK A=>z7l (c K A) (b1 K A) (b2 K A)) a':=⟨λK A=>by rw [h1.e,h2.e];exact h.e K A⟩
theorem zcK(h1:ClF2 b1 bh)(h2:ClF2 b2 du)(h:NmF2 (λK A=>zb0 (c K A) (tL2 bh K A) (tL2 du K A)) a'):NmF2 (λK A=>zb0 (c K A) (b1 K A) (b2 K A)) a':=⟨λK A=>by rw [h1.e,h2.e];exact h.e K A⟩
theorem z9z(h1:ClF2 b1 bh)(h:NmF2 (λK A=>z1s (c K A) (tL2 bh K A)) a'):NmF2 (λK A=>z1s (c K A) (b1 K A)) a':=⟨λK A=>by rw [h1.e];exact h.e K A⟩
theorem z0i{K:W.Frag}{A:Addr}{σ:St}{t:W.Frag->Addr->TS}(e:ClF2 t bs)(h:tL2 bs K A D σ H):∀a,K=a->∀b,A=b->t a b D σ H:=by
 rintro _ rfl _ rfl;rw [e.e];exact h
end
def tL3:List (W.Frag->Addr->Addr->TS)->W.Frag->Addr->Addr->TS
 | [],_,_,_=>z4a
 | a :: b,K,A,B=>z2R (a K A B) (tL3 b K A B)
structure NmF3(a b:W.Frag->Addr->Addr->TS):Prop where
 e:∀K A B,a K A B=b K A B
structure ClF3(a:W.Frag->Addr->Addr->TS)(bs:List (W.Frag->Addr->Addr->TS)):Prop where
 e:∀K A B,a K A B=tL3 bs K A B
section
variable{a a' b b1 b2:W.Frag->Addr->Addr->TS}{bs bh du:List (W.Frag->Addr->Addr->TS)}{c:W.Frag->Addr->Addr->TT}{wi:W.Frag->Addr->Addr->TI}{g:W.Frag->Addr->Addr->TG}
theorem zcn:ClF3 (λ_ _ _=>z4a) []:=⟨λ_ _ _=>rfl⟩
theorem zah(h0:NmF3 a a')(h2:ClF3 b bs):ClF3 (λK A B=>z2R (a K A B) (b K A B)) (a' :: bs):=⟨λK A B=>by show z2R (a K A B) (b K A B)=z2R (a' K A B) (tL3 bs K A B);rw [h0.e,h2.e]⟩
theorem zbT(h0:NmF3 a a'):ClF3 a [a']:=⟨λK A B=>by rw [h0.e];rfl⟩
theorem ze7(h1:ClF3 b1 bh)(h2:ClF3 b2 du)(h:NmF3 (λK A B=>z7l (c K A B) (tL3 bh K A B) (tL3 du K A B)) a'):NmF3 (λK A B=>z7l (c K A B) (b1 K A B) (b2 K A B)) a':=⟨λK A B=>by rw [h1.e,h2.e];exact h.e K A B⟩
theorem z9W(h1:ClF3 b1 bh)(h:NmF3 (λK A B=>z1s (c K A B) (tL3 bh K A B)) a'):NmF3 (λK A B=>z1s (c K A B) (b1 K A B)) a':=⟨λK A B=>by rw [h1.e];exact h.e K A B⟩
theorem zbQ(h1:ClF3 b1 bh)(h:NmF3 (λK A B=>z9X (wi K A B) (g K A B) (tL3 bh K A B)) a'):NmF3 (λK A B=>z9X (wi K A B) (g K A B) (b1 K A B)) a':=⟨λK A B=>by rw [h1.e];exact h.e K A B⟩
theorem z62{K:W.Frag}{A B:Addr}{σ:St}{t:W.Frag->Addr->Addr->TS}(e:ClF3 t bs)(h:tL3 bs K A B D σ H):∀a,K=a->∀b,A=b->∀c,B=c->t a b c D σ H:=by
 rintro _ rfl _ rfl _ rfl;rw [e.e];exact h
end
end L2

namespace L2
open PySem PySem.Spec PyProof.Rows
variable{X:Cx}{tb:TS}{N ps:List Str}{sc:Scope}{x:Str}{e:Expr}{op:CmpOp}{r:R2}{sp:Sp}{body:List Stmt}
section
variable{a b:Expr}{ta tb:TE}{pos:Pos}
theorem ixT(ha:PE X a ta)(c:PE X b tb)(hs:z5P b:=by exact λ_ _=>rfl):PE X (.Subscript a b pos) (tOp (zdL X.K) ta tb):=yD zaS ha c hs
theorem ixL(ha:PE X a ta)(c:PE X b tb)(hs:z5P b:=by exact λ_ _=>rfl):PE X (.Subscript a b pos) (tOp (zdK X.K) ta tb):=yD z8x ha c hs
theorem seT(i:Nat)(S:FnScope N ps sc){te:TE}{pos':Pos}(a:PE X e te)(d:X.N=N:=by rfl)(hi:X.N[i]? =some x:=by rfl)(c:Loc X.env.scope x:=by exact w02 rfl)(hs:swapsWith e (some (.Name x pos')) pos.line X.env=pure false:=by rfl)(b:X.fn x=true\/X.env.scope.names.lookup x=some .local:=by first | exact .inl rfl | exact .inr rfl | assumption):
  PS X (.Assign [.Name x pos'] e pos) (ze0 te (z1Z i)):=kf (d ▸ S.nd) hi c a hs b
theorem gnM(i:Nat)(S:FnScope N ps sc)(c:X.N=N:=by rfl)(hi:X.N[i]? =some x:=by rfl)(b:Loc X.env.scope x:=by exact w02 rfl)(a:X.fn x=true\/X.env.scope.names.lookup x=some .local:=by first | exact .inl rfl | exact .inr rfl | assumption):PG X (.Name x pos) (z1Z i):=z0I (c ▸ S.nd) hi b a
theorem cmE(d:OpR X (compareOp op) r)(ha:PE X a ta)(c:PE X b tb)(hm:behindInMarks op b=false:=by exact zaZ _):PE X (.Compare a [op] [b] pos) (tOp r ta tb):=z3X d ha c hm
theorem cmT(d:OpR X (compareOp op) r)(ha:PE X a ta)(c:PE X b tb)(hm:behindInMarks op b=false:=by exact zaZ _):PT X (.Compare a [op] [b] pos) (zda (tOp r ta tb)):=yb d ha c hm
variable{es:List Expr}{t:TA}{p:Pos}
theorem zW{k:Nat}(C:Kn X.prog X.w X.K X.mg X.base k x ps sp)(hr:Room k X.A)(ha:PA X (e :: es) t)(d:Gl X x:=by rfl)
  (c:(x == ("__debug__":Str))=false:=by decide) (a:starEach (e :: es) X.env=(false,eval e X.env) :: starEach es X.env:=by rfl) (b:(backTo pos (starEach es X.env)).any (·.1)=false:=by rfl):
  PE X (.Call (.Name x p) (e :: es) [] pos) (zag sp [] E0 t):=z6F C hr d ha c a b
theorem leN(hm:X.mg "len"=none)(ha:PA X (e :: es) t)(c:Gl X "len":=by rfl)(a:starEach (e :: es) X.env=(false,eval e X.env) :: starEach es X.env:=by rfl)(b:(backTo pos (starEach es X.env)).any (·.1)=false:=by rfl):
  PE X (.Call (.Name "len" p) (e :: es) [] pos) (tCB (λxs H Q=>∃p ys,xs= [.ref p]/\(SqL X.K H p ys\/SqT X.K H p ys)/\Q (.int ys.length) H) t):=zR z5L c hm PySem.boot_len ha (by decide) (by decide) a b
theorem foR{tg iter:Expr}{wi:TI}{g:TG}{tb:TS}(hi:PI X tg iter wi)(b:PG X tg g)(a:PSs X body tb)(hp:PassesOwn (model X.prog X.w) X.A X.env X.xe:=by exact PassesOwn.never)(hc:X.calm=true:=by rfl)
  (hs:∀x,foldedSetIterable iter X.env x=pure x:=by intro _;rfl):PS X (.For tg iter body [] pos) (z9X wi g tb):=ze1 hp hc hi b a hs
theorem z7d{c:Expr}{tc:TT}{tb:TS}(hc:PT X c tc)(a:PSs X body tb)(hp:PassesOwn (model X.prog X.w) X.A X.env X.xe:=by exact PassesOwn.never):PS X (.While c body [] pos) (z1s tc tb):=zbA hp hc a
theorem apP{o:Expr}{to:TE}{apos af:Pos}(b:PE X o to)(ha:PA X (e :: es) t)(a:attributeBase o "append" X.env (eval o X.env)=eval o X.env:=by rfl)
  (c:((backTo af (starEach (e :: es) X.env)).all (λx=> !x.1) && (backToKw af (keywordEach [] X.env)).all (λx=>x.1.isSome)
   && decide ((e :: es).length + ([]:List Keyword).length + (if([]:List Keyword).isEmpty then 0 else 1) < 30))=true:=by rfl)
  (d:(apos.endLine == af.line)=true:=by rfl) (hs:starEach (e :: es) X.env=(false,eval e X.env) :: starEach es X.env:=by rfl) (f:(backTo af (starEach es X.env)).any (·.1)=false:=by rfl):
  PE X (.Call (.Attribute o "append" apos) (e :: es) [] af) (tBM X.K "list" z92 to t):=z1z qB PySem.F.slot_list_append PySem.F.type_list_append z9p b ha a c d hs f
end
section
variable{P:Program}{w:World}{K:W.Frag}{mg:Str->Option Value}{base:Heap}
def BodyOk(P:Program)(w:World)(K:W.Frag)(mg:Str->Option Value)(base:Heap)(N:List Str)(qual:Str)(st:Stmt)(k:Nat)(f:Addr)(vs:List V)(H:Hp)(Q:VK)(E:XK):Prop:=
 ∀(ad:Value) (A:Around) (outer:List Env) (s:Shared),Room k (A.deeper (envOfC qual (zm st) s.heap.objs.size f ad))->
  ∃t,PSs (z3k CX0 P w K mg base N qual (zm st) f ad A outer s H E).nox (yq st) t/\t {nx:=λ_ H'=>Q .non H',rt:=Q} (start N vs) H
def Fun.okB{qual:Str}{st:Stmt}{f:Addr}{fd:FuncData}{k:Nat}(F:Fun K x qual st f fd)(S:FnScope N ps (zm st))(len:∀vs H Q E,sp vs H Q E->vs.length=ps.length)
  (a:∀vs H Q E,sp vs H Q E->BodyOk P w K mg base N qual st k f vs H Q E):FnOk P w K mg base CX0 (k + 1) f fd ps sp:=
 F.ok S len λad A outer s H vs Q E hr h=>a vs H Q E h ad A outer s hr
end
section
variable{pos:Pos}
theorem v0(b:X.N[0]? =some x:=by rfl)(a:Vis X.env.scope x:=by first | exact w02 rfl | exact QO (w02 rfl) | exact QO (QO rfl))(hd:(x == ("__debug__":Str))=false:=by decide)(c:(x == ("__classdict__":Str))=false:=by decide):PE X (.Name x pos) (z76 0):=z2r b a hd c
theorem v1(b:X.N[1]? =some x:=by rfl)(a:Vis X.env.scope x:=by first | exact w02 rfl | exact QO (w02 rfl) | exact QO (QO rfl))(hd:(x == ("__debug__":Str))=false:=by decide)(c:(x == ("__classdict__":Str))=false:=by decide):PE X (.Name x pos) (z76 1):=z2r b a hd c
theorem v2(b:X.N[2]? =some x:=by rfl)(a:Vis X.env.scope x:=by first | exact w02 rfl | exact QO (w02 rfl) | exact QO (QO rfl))(hd:(x == ("__debug__":Str))=false:=by decide)(c:(x == ("__classdict__":Str))=false:=by decide):PE X (.Name x pos) (z76 2):=z2r b a hd c
theorem v3(b:X.N[3]? =some x:=by rfl)(a:Vis X.env.scope x:=by first | exact w02 rfl | exact QO (w02 rfl) | exact QO (QO rfl))(hd:(x == ("__debug__":Str))=false:=by decide)(c:(x == ("__classdict__":Str))=false:=by decide):PE X (.Name x pos) (z76 3):=z2r b a hd c
theorem v4(b:X.N[4]? =some x:=by rfl)(a:Vis X.env.scope x:=by first | exact w02 rfl | exact QO (w02 rfl) | exact QO (QO rfl))(hd:(x == ("__debug__":Str))=false:=by decide)(c:(x == ("__classdict__":Str))=false:=by decide):PE X (.Name x pos) (z76 4):=z2r b a hd c
theorem v5(b:X.N[5]? =some x:=by rfl)(a:Vis X.env.scope x:=by first | exact w02 rfl | exact QO (w02 rfl) | exact QO (QO rfl))(hd:(x == ("__debug__":Str))=false:=by decide)(c:(x == ("__classdict__":Str))=false:=by decide):PE X (.Name x pos) (z76 5):=z2r b a hd c
end
def zq{n:Nat}(h:Nat.ble n 1000000=true):n<=sizeLine:=je (qO h)
end L2

namespace Cn
open PySem L2
inductive Side where
 | nm (s:Str) | nu (i:Int)
noncomputable def Side.v:Side->V
 | .nm s=> .str s
 | .nu i=> .int i
def Side.ok(hs:List Str):Side->Prop
 | .nm s=>s∈hs
 | .nu _=>True
noncomputable def Side.cols:Side->List Str
 | .nm s=> [s]
 | .nu _=> []
inductive Cond where
 | less (a b:Side) | same (a b:Side) | no (c:Cond) | an (c d:Cond) | or (c d:Cond)
namespace Cond
noncomputable def size:Cond->Nat
 | .less _ _=>1
 | .same _ _=>1
 | .no c=>c.size + 1
 | .an c d=>c.size + d.size + 1
 | .or c d=>c.size + d.size + 1
noncomputable def leaf:Cond->Bool
 | .less _ _=>true
 | .same _ _=>true
 | _=>false
def ok(hs:List Str):Cond->Prop
 | .less a b=>a.ok hs/\b.ok hs
 | .same a b=>a.ok hs/\b.ok hs
 | .no c=>c.ok hs
 | .an c d=>c.ok hs/\d.ok hs
 | .or c d=>c.ok hs/\d.ok hs
noncomputable def cols:Cond->List Str
 | .less a b=>a.cols ++ b.cols
 | .same a b=>a.cols ++ b.cols
 | .no c=>c.cols
 | .an c d=>c.cols ++ d.cols
 | .or c d=>c.cols ++ d.cols
theorem size_pos(c:Cond):1<=c.size:=by
 cases c <;> simp only [size] <;> lia
theorem z0m(a:Side):a.cols.length<=1:=by
 cases a <;> simp [Side.cols]
theorem cols_le:∀c:Cond,c.cols.length<=2 * c.size
 | .less a b=>by
  have h1:=z0m a;have h2:=z0m b;simp only [cols,size,wg];lia
 | .same a b=>by
  have h1:=z0m a;have h2:=z0m b;simp only [cols,size,wg];lia
 | .no c=>by
  have:=cols_le c;simp only [cols,size];lia
 | .an c d=>by
  have h1:=cols_le c;have h2:=cols_le d;simp only [cols,size,wg];lia
 | .or c d=>by
  have h1:=cols_le c;have h2:=cols_le d;simp only [cols,size,wg];lia
end Cond
noncomputable def num(hs:List Str)(rs:List Int):Side->Int
 | .nm s=>rs.getD (hs.idxOf s) 0
 | .nu i=>i
noncomputable def ev(hs:List Str)(rs:List Int):Cond->Bool
 | .less a b=>decide (num hs rs a < num hs rs b)
 | .same a b=>decide (num hs rs a=num hs rs b)
 | .no c=> !ev hs rs c
 | .an c d=>ev hs rs c && ev hs rs d
 | .or c d=>ev hs rs c || ev hs rs d
def zG(H:Hp):Cond->V->Prop
 | .less a b,v=>∃p,v= .ref p/\H p=some (.tup [.str "less",a.v,b.v])
 | .same a b,v=>∃p,v= .ref p/\H p=some (.tup [.str "same",a.v,b.v])
 | .no c,v=>∃p x,v= .ref p/\H p=some (.tup [.str "not",x])/\zG H c x
 | .an c d,v=>∃p x y,v= .ref p/\H p=some (.tup [.str "and",x,y])/\zG H c x/\zG H d y
 | .or c d,v=>∃p x y,v= .ref p/\H p=some (.tup [.str "or",x,y])/\zG H c x/\zG H d y
variable{H:Hp}
theorem zG.mono{H':Hp}(t:∀b xs,H b=some (.tup xs)->H' b=some (.tup xs)):∀{c:Cond} {v:V},zG H c v->zG H' c v
 | .less _ _,_,h=>by
  obtain⟨p,rfl,h⟩:=h;exact⟨p,rfl,t _ _ h⟩
 | .same _ _,_,h=>by
  obtain⟨p,rfl,h⟩:=h;exact⟨p,rfl,t _ _ h⟩
 | .no _,_,h=>by
  obtain⟨p,x,rfl,h,h1⟩:=h;exact⟨p,x,rfl,t _ _ h,h1.mono t⟩
 | .an _ _,_,h=>by
  obtain⟨p,x,y,rfl,h,h1,h2⟩:=h;exact⟨p,x,y,rfl,t _ _ h,h1.mono t,h2.mono t⟩
 | .or _ _,_,h=>by
  obtain⟨p,x,y,rfl,h,h1,h2⟩:=h;exact⟨p,x,y,rfl,t _ _ h,h1.mono t,h2.mono t⟩
variable{c:Cond}
theorem zG.same{H':Hp}{v:V}(e:zz H H')(h:zG H c v):zG H' c v:=h.mono λb xs q=>e b _ q
theorem zG.ref{v:V}(h:zG H c v):∃p xs,v= .ref p/\H p=some (.tup xs):=by
 cases c with
 | less a b=>obtain⟨p,rfl,h⟩:=h;exact⟨p,_,rfl,h⟩
 | same a b=>obtain⟨p,rfl,h⟩:=h;exact⟨p,_,rfl,h⟩
 | no c=>obtain⟨p,x,rfl,h,_⟩:=h;exact⟨p,_,rfl,h⟩
 | an c d=>obtain⟨p,x,y,rfl,h,_⟩:=h;exact⟨p,_,rfl,h⟩
 | or c d=>obtain⟨p,x,y,rfl,h,_⟩:=h;exact⟨p,_,rfl,h⟩
theorem zG.head{v:V}(h:zG H c v):∃(p:Addr) (x:Str) (xs:List V),v= .ref p/\H p=some (.tup (.str x :: xs))/\inV (.str x) [.str "less",.str "same"]=c.leaf:=by
 cases c with
 | less a b=>obtain⟨p,rfl,h⟩:=h;exact⟨p,_,_,rfl,h,(by show inV _ _=_;first | exact(by decide +kernel:inV (.str "less") [.str "less",.str "same"]=true) | exact(by decide +kernel:inV (.str "same") [.str "less",.str "same"]=true) | exact(by decide +kernel:inV (.str "not") [.str "less",.str "same"]=false) | exact(by decide +kernel:inV (.str "and") [.str "less",.str "same"]=false) | exact(by decide +kernel:inV (.str "or") [.str "less",.str "same"]=false))⟩
 | same a b=>obtain⟨p,rfl,h⟩:=h;exact⟨p,_,_,rfl,h,(by show inV _ _=_;first | exact(by decide +kernel:inV (.str "less") [.str "less",.str "same"]=true) | exact(by decide +kernel:inV (.str "same") [.str "less",.str "same"]=true) | exact(by decide +kernel:inV (.str "not") [.str "less",.str "same"]=false) | exact(by decide +kernel:inV (.str "and") [.str "less",.str "same"]=false) | exact(by decide +kernel:inV (.str "or") [.str "less",.str "same"]=false))⟩
 | no c=>obtain⟨p,x,rfl,h,_⟩:=h;exact⟨p,_,_,rfl,h,(by show inV _ _=_;first | exact(by decide +kernel:inV (.str "less") [.str "less",.str "same"]=true) | exact(by decide +kernel:inV (.str "same") [.str "less",.str "same"]=true) | exact(by decide +kernel:inV (.str "not") [.str "less",.str "same"]=false) | exact(by decide +kernel:inV (.str "and") [.str "less",.str "same"]=false) | exact(by decide +kernel:inV (.str "or") [.str "less",.str "same"]=false))⟩
 | an c d=>obtain⟨p,x,y,rfl,h,_⟩:=h;exact⟨p,_,_,rfl,h,(by show inV _ _=_;first | exact(by decide +kernel:inV (.str "less") [.str "less",.str "same"]=true) | exact(by decide +kernel:inV (.str "same") [.str "less",.str "same"]=true) | exact(by decide +kernel:inV (.str "not") [.str "less",.str "same"]=false) | exact(by decide +kernel:inV (.str "and") [.str "less",.str "same"]=false) | exact(by decide +kernel:inV (.str "or") [.str "less",.str "same"]=false))⟩
 | or c d=>obtain⟨p,x,y,rfl,h,_⟩:=h;exact⟨p,_,_,rfl,h,(by show inV _ _=_;first | exact(by decide +kernel:inV (.str "less") [.str "less",.str "same"]=true) | exact(by decide +kernel:inV (.str "same") [.str "less",.str "same"]=true) | exact(by decide +kernel:inV (.str "not") [.str "less",.str "same"]=false) | exact(by decide +kernel:inV (.str "and") [.str "less",.str "same"]=false) | exact(by decide +kernel:inV (.str "or") [.str "less",.str "same"]=false))⟩
noncomputable def apf(hs:List Str)(rs:List Int):Cond->Bool->Bool
 | .no _,b=> !b
 | .an _ d,b=>b && ev hs rs d
 | .or _ d,b=>b || ev hs rs d
 | _,b=>b
noncomputable def wgt:Cond->Nat
 | .an _ d=>d.size + 1
 | .or _ d=>d.size + 1
 | _=>1
theorem zG.down{p:Addr}{x:V}{xs:List V}(hs:List Str)(rs:List Int)(h:zG H c (.ref p))(hp:H p=some (.tup (x :: xs)))(lf:c.leaf=false)(ok:c.ok hs):
  ∃(y:V) (r:List V) (d:Cond),xs=y :: r/\zG H d y/\d.ok hs/\d.size + wgt c=c.size/\apf hs rs c (ev hs rs d)=ev hs rs c:=by
 cases c with
 | less a b=>cases lf
 | same a b=>cases lf
 | no c=>
  obtain⟨p',y,e,h,h1⟩:=h;cases e;rw [hp]at h;cases h;exact⟨_,_,c,rfl,h1,ok,rfl,rfl⟩
 | an c d=>
  obtain⟨p',y,z,e,h,h1,h2⟩:=h;cases e;rw [hp]at h;cases h;exact⟨_,_,c,rfl,h1,ok.1,by simp only [wgt,Cond.size];lia,rfl⟩
 | or c d=>
  obtain⟨p',y,z,e,h,h1,h2⟩:=h;cases e;rw [hp]at h;cases h;exact⟨_,_,c,rfl,h1,ok.1,by simp only [wgt,Cond.size];lia,rfl⟩
noncomputable def wt(fs:List (V×Cond)):Nat:=(fs.map λf=>wgt f.2).sum
end Cn

namespace Rw
open PySem L2
noncomputable abbrev refs(rs:List (Addr×List Int)):List V:=rs.map λr=>V.ref r.1
def RowsAt(H:Hp)(p:Addr)(rs:List (Addr×List Int)):Prop:=H p=some (.lst (refs rs))/\∀r∈rs,r.1≠p/\H r.1=some (.lst (r.2.map V.int))
variable{H:Hp}{p:Addr}{rs:List (Addr×List Int)}
theorem RowsAt.same{H':Hp}(h:RowsAt H p rs)(e:zz H H'):RowsAt H' p rs:=⟨e _ _ h.1,λr m=>⟨(h.2 r m).1,e _ _ (h.2 r m).2⟩⟩
def RowsAt.kp{H':Hp}{l:Addr}(h:RowsAt H p rs)(e:Kp l H H')(np:p≠l)(a:∀r∈rs,r.1≠l):RowsAt H' p rs:=⟨e _ _ np h.1,λr m=>⟨(h.2 r m).1,e _ _ (a r m) (h.2 r m).2⟩⟩
theorem ky(h:H p=some (.lst [])):RowsAt H p []:=⟨h,λ_ z=>by cases z⟩
theorem RowsAt.push{q:Addr}{x:List Int}(h:RowsAt H p rs)(a:q≠p)(hq:H q=some (.lst (x.map V.int))):
  RowsAt (upd H p (.lst ((refs rs) ++ [V.ref q]))) p (rs ++ [(q,x)]):=by
 refine⟨by rw [zl];simp [refs],λr m=> ?_⟩;rcases wA.mp m with m | m
 ·exact⟨(h.2 r m).1,by rw [zn (h.2 r m).1];exact(h.2 r m).2⟩
 ·rw [wz.mp m];exact⟨a,by rw [zn a];exact hq⟩
theorem RowsAt.len:(refs rs).length=rs.length:=w9 _
variable{i:Nat}
theorem z0c(h:i < rs.length):(refs rs)[i]? =some (V.ref rs[i].1):=by
 rw [wQ,we h]
 rfl
theorem int_at{xs:List Int}(h:i < xs.length):(xs.map V.int)[i]? =some (.int (xs.getD i 0)):=by
 rw [wQ,we h,ww,we h]
 rfl
theorem z66(h:i < rs.length):atI (refs rs) (0 + (i:Int))=some (V.ref rs[i].1):=by
 rw [QH];exact zN (z0c h)
end Rw

namespace L2
open PySem PySem.Spec PyProof.Rows
section
variable{X:Cx}
def zdI(K:W.Frag):R2:=λx y H Q=>∃a b xs,x= .ref a/\y= .ref b/\SqL K H a xs/\SqL K H b []/\Q (.bl (!xs.isEmpty)) H
theorem z4w(p:X.A.units + 1 < cLine):OpR X (compareOp .NotEq) (zdI X.K):=by
 intro pins s σ H x y v u Q I n i h;have c:X.A.units < cLine:=by lia
 obtain⟨a,b,xs,rfl,rfl,ha,f,q⟩:=h;cases n;cases i;obtain⟨its,r,pl,hz⟩:=I.list ha;obtain⟨o,r2,d,_⟩:=I.list f;have l:o= []:=r2.zero;subst l;cases r with
 | nil=>exact SeqAt.RcNeAt.lists (e:=λ_=>true) pl.isList d.isList rfl c (λj h1 _=>absurd h1 (by simp)) _ _ _ _ ⟨.bl false,H,I,by simp [RelV],q⟩
 | cons r1 r2=>exact SeqAt.RcNeAt.lists_lengths pl.isList d.isList (by simp) c _ _ _ _ ⟨.bl true,H,I,rfl,q⟩
end
end L2

namespace L2
open PySem PySem.Spec PyProof.Rows PySem.W
def kOk(n:Nat)(k:Nat->Int){α:Type}(Q:α->Prop):KasT α->Prop
 | .ret a=>Q a
 | .ask i j f=>i < n/\j < n/\kOk n k Q (f (decide (k i < k j)))
def z1e{n:Nat}{k:Nat->Int}{α β:Type}{Q:β->Prop}{f:α->KasT β}:∀{t:KasT α},kOk n k (λa=>kOk n k Q (f a)) t->kOk n k Q (t.bind f)
 | .ret _,h=>h
 | .ask _ _ _,h=>⟨h.1,h.2.1,z1e h.2.2⟩
def yg{n:Nat}{k:Nat->Int}{α:Type}{Q b:α->Prop}(hq:∀a,Q a->b a):∀{t:KasT α},kOk n k Q t->kOk n k b t
 | .ret _,h=>hq _ h
 | .ask _ _ _,h=>⟨h.1,h.2.1,yg hq h.2.2⟩
theorem zbc{n:Nat}{k:Nat->Int}{b:Nat->Nat->(Bool->Shared->Prop)->Shared->Prop}{s:Shared}(hc:∀i j C,i < n->j < n->C (decide (k i < k j)) s->b i j C s){α:Type}{Q:α->Shared->Prop}:
  ∀{t:KasT α},kOk n k (λa=>Q a s) t->t.kasWp b Q s
 | .ret _,h=>h
 | .ask _ _ _,h=>hc _ _ _ h.1 h.2.1 (zbc hc h.2.2)
variable{n i j:Nat}
theorem z3g{k:Nat->Int}{α:Type}{Q:α->Prop}{a b:KasT α}(hi:i < n)(d:j < n)(h1:k i < k j->kOk n k Q a)(h2:¬k i < k j->kOk n k Q b):
  kOk n k Q (.ask i j λc=>if c=true then a else b):=by
 refine⟨hi,d,?_⟩;by_cases c:k i < k j
 ·show kOk n k Q (if decide (k i < k j)=true then a else b)
  rw [wY (by simpa using c)];exact h1 c
 ·show kOk n k Q (if decide (k i < k j)=true then a else b)
  rw [wU (by simpa using c)];exact h2 c
def Rk(k:Nat->Int)(x y:Nat):Prop:=k x < k y\/(k x=k y/\x < y)
theorem Rk.trans{k:Nat->Int}{x y z:Nat}(h:Rk k x y)(h':Rk k y z):Rk k x z:=by unfold Rk at *;lia
noncomputable def at'(p:Array Nat)(i:Nat):Nat:=(p[i]?).getD 0
theorem getD_at(p:Array Nat)(i:Nat):p.getD i 0=at' p i:=by
 unfold at';simp [Array.getD_eq_getD_getElem?]
structure Ar(n m:Nat)(p:Array Nat):Prop where
 sz:p.size=n
 mn:m<=n
 id:∀i,m<=i->i < n->at' p i=i
 lo:∀i,i < m->at' p i < m
 pm:p.Perm (List.range n).toArray
variable{p:Array Nat}
theorem Ar.lt{m:Nat}(h:Ar n m p)(hi:i < n):at' p i < n:=by
 by_cases e:i < m
 ·exact wZ (h.lo i e) h.mn
 ·rw [h.id i (by lia) hi];exact hi
theorem Ar.up{m c:Nat}(h:Ar n m p)(h1:m<=c)(h2:c<=n):Ar n c p:=by
 refine⟨h.sz,h2,λi a b=>h.id i (by lia) b,λi a=> ?_,h.pm⟩;by_cases e:i < m
 ·have:=h.lo i e;lia
 ·rw [h.id i (by lia) (by lia)];exact a
def Up(k:Nat->Int)(m:Nat)(p:Array Nat):Prop:=∀i j,i < j->j < m->Rk k (at' p i) (at' p j)
def Dn(k:Nat->Int)(m:Nat)(p:Array Nat):Prop:=∀i j,i < j->j < m->Rk k (at' p j) (at' p i)
theorem z0j(a:j<=p.size)(x:Nat):at' (kas_rev p i j) x=if i<=x/\x < j then at' p (i + j - 1 - x)else at' p x:=by
 unfold at' kas_rev;rw [getElem?_mirror_all a];split <;> rfl
theorem Ar.rev{m:Nat}(h:Ar n m p)(c:j<=m):Ar n m (kas_rev p i j):=by
 have hs:j<=p.size:=by rw [h.sz];exact wW c h.mn
 refine⟨by show(mirror _ _ _ _).size=n;rw [mirror_size,h.sz],h.mn,λx a b=> ?_,λx a=> ?_,(mirror_perm _ _ _ _).trans h.pm⟩
 ·rw [z0j hs,wU (by lia),h.id x a b]
 ·rw [z0j hs];split
  ·exact h.lo _ (by lia)
  ·exact h.lo _ a
theorem Dn.rev{k:Nat->Int}{m:Nat}(A:Ar n m p)(h:Dn k m p):Up k m (kas_rev p 0 m):=by
 have hs:m<=p.size:=by rw [A.sz];exact A.mn
 intro i j b a;rw [z0j hs,z0j hs,wY (by lia),wY (by lia)];exact h _ _ (by lia) (by lia)
theorem zap{n:Nat}{k:Nat->Int}{p:Array Nat}:∀(f m:Nat),1<=m->m + f=n->Ar n m p->Up k m p->
  kOk n k (λb=>m<=b/\b<=n/\Ar n b p/\Up k b p) (kas_asc p f m)
 | 0,m,_,d,A,U=>⟨wu _,by lia,A,U⟩
 | f + 1,m,h1,d,A,U=>by
  show kOk n k _ (KasT.ask _ _ _)
  rw [getD_at,getD_at];have l:=A.id m (wu _) (by lia);have q:=A.lo (m - 1) (by lia);refine z3g (by rw [l];lia) (by lia) (λc=> ?_) λc=> ?_
  ·skip
   exact⟨wu _,by lia,A,U⟩
  ·skip
   refine yg (λa h=>⟨by lia,h.2⟩) (zap f (m + 1) (by lia) (by lia) (A.up (by lia) (by lia)) ?_);have last:Rk k (at' p (m - 1)) (at' p m):=by unfold Rk;lia
   intro i j o r;by_cases e:j < m
   ·exact U i j o e
   ·obtain rfl:j=m:=by lia
    by_cases e2:i=j - 1
    ·rw [e2];exact last
    ·exact(U i (j - 1) (by lia) (by lia)).trans last
structure Fal(k:Nat->Int)(m q:Nat)(p:Array Nat):Prop where
 qm:q + 1<=m
 fr:∀i j,i < j->j < m - (q + 1)->Rk k (at' p j) (at' p i)
 st:∀i j,i < m - (q + 1)->m - (q + 1)<=j->j < m->k (at' p j) < k (at' p i)
 eq:∀i,m - (q + 1)<=i->i < m->k (at' p i)=k (at' p (m - 1))
 or:∀i j,i < j->j < m->m - (q + 1)<=i->at' p i < at' p j
theorem Fal.dn{k:Nat->Int}{m q:Nat}(A:Ar n m p)(h:Fal k m q p):Dn k m (kas_rev p (m - (q + 1)) m)/\∀x,x < m->k (at' p (m - 1))<=k (at' (kas_rev p (m - (q + 1)) m) x):=by
 have hs:m<=p.size:=by rw [A.sz];exact A.mn
 have hq:=h.qm;have f:∀x,x < m->k (at' p (m - 1))<=k (at' p x):=λx d=>by
  by_cases e:x < m - (q + 1)
  ·have:=h.st x (m - 1) e (by lia) (by lia);lia
  ·rw [h.eq x (by lia) d];exact Int.le_refl _
 refine⟨λi j o l=> ?_,λx d=> ?_⟩
 ·rw [z0j hs,z0j hs];by_cases ei:m - (q + 1)<=i
  ·rw [wY (by lia),wY (by lia)];have a:=h.eq (m - (q + 1) + m - 1 - i) (by lia) (by lia);have b:=h.eq (m - (q + 1) + m - 1 - j) (by lia) (by lia);have c:=h.or (m - (q + 1) + m - 1 - j) (m - (q + 1) + m - 1 - i) (by lia) (by lia) (by lia);unfold Rk;lia
  ·rw [wU (show¬(m - (q + 1)<=i/\i < m) by lia)];split
   ·exact w02 (h.st _ _ (by lia) (by lia) (by lia))
   ·exact h.fr _ _ (by lia) (by lia)
 ·rw [z0j hs];split
  ·exact f _ (by lia)
  ·exact f _ d
theorem Fal.dn0{k:Nat->Int}{m:Nat}(h:Fal k m 0 p):Dn k m p/\∀x,x < m->k (at' p (m - 1))<=k (at' p x):=by
 have hq:=h.qm;refine⟨λi j b a=> ?_,λx c=> ?_⟩
 ·by_cases e:j < m - 1
  ·exact h.fr i j b e
  ·exact w02 (h.st i j (by lia) (by lia) a)
 ·by_cases e:x < m - 1
  ·have:=h.st x (m - 1) e (by lia) (by lia);lia
  ·obtain rfl:x=m - 1:=by lia
   exact Int.le_refl _
theorem Fal.step{k:Nat->Int}{m:Nat}(hm:m < n)(h:Dn k m p){y:Int}(l:∀x,x < m->y<=k (at' p x))(hl:k (at' p m) < y):Fal k (m + 1) 0 p:=by
 refine⟨by lia,λi j f d=>h i j f (by lia),λi j hi d e=> ?_,λi a b=> ?_,λi j a b c=>by lia⟩
 ·obtain rfl:j=m:=by lia
  have:=l i (by lia)
  lia
 ·obtain rfl:i=m:=by lia
  simp
theorem z3R{n:Nat}{k:Nat->Int}:∀(f:Nat) (p:Array Nat) (m q:Nat),m + f=n->Ar n m p->Fal k m q p->
  kOk n k (λr=>m<=r.2.1/\r.2.1<=n/\Ar n r.2.1 r.1/\Fal k r.2.1 r.2.2 r.1) (kas_desc f p m q)
 | 0,p,m,q,u,A,F=>⟨wu _,by show m<=n;lia,A,F⟩
 | f + 1,p,m,q,u,A,F=>by
  show kOk n k _ (KasT.ask _ _ _)
  rw [getD_at,getD_at];have hq:=F.qm;have l:=A.id m (wu _) (by lia);have y:=A.lo (m - 1) (by lia);refine z3g (by rw [l];lia) (by lia) (λc=> ?_) λc=> ?_
  ·skip
   have hs:m<=p.size:=by rw [A.sz];lia
   by_cases q0:q > 0
   ·rw [wY q0];have w:Ar n m (kas_rev p (m - (q + 1)) m):=A.rev (wu _);have x:at' (kas_rev p (m - (q + 1)) m) m=at' p m:=by rw [z0j hs,wU (by lia)]
    exact yg (λa h=>⟨by lia,h.2⟩) (z3R f _ (m + 1) 0 (by lia) (w.up (by lia) (by lia)) (Fal.step (n:=n) (by lia) (F.dn A).1 (F.dn A).2 (by rw [x];exact c)))
   ·rw [wU q0];obtain rfl:q=0:=by lia
    exact yg (λa h=>⟨by lia,h.2⟩) (z3R f _ (m + 1) 0 (by lia) (A.up (by lia) (by lia)) (Fal.step (n:=n) (by lia) F.dn0.1 F.dn0.2 c))
  ·refine z3g (by lia) (by rw [l];lia) (λd=> ?_) λd=> ?_
   ·exact⟨wu _,by show m<=n;lia,A,F⟩
   ·have t:k (at' p m)=k (at' p (m - 1)):=by lia
    refine yg (λa h=>⟨by lia,h.2⟩) (z3R f _ (m + 1) (q + 1) (by lia) (A.up (by lia) (by lia)) ⟨by lia,λi j o s=> ?_,λi j hi s hm=> ?_,λi a b=> ?_,λi j o s hi=> ?_⟩)
    ·exact F.fr i j o (by lia)
    ·by_cases e:j < m
     ·exact F.st i j (by lia) (by lia) e
     ·obtain rfl:j=m:=by lia
      rw [t];exact F.st i (j - 1) (by lia) (by lia) (by lia)
    ·rw [Nat.add_sub_cancel];by_cases e:i < m
     ·rw [F.eq i (by lia) e,t]
     ·obtain rfl:i=m:=by lia
      rfl
    ·by_cases e:j < m
     ·exact F.or i j o e (by lia)
     ·obtain rfl:j=m:=by lia
      rw [l];exact A.lo i (by lia)
theorem z6p{m:Nat}{k:Nat->Int}(h1:1<=m)(A:Ar n m p)(D:Dn k m p):
  kOk n k (λr=>1<=r.1/\r.1<=n/\Ar n r.1 r.2/\Up k r.1 r.2) (kas_tail3 m n p):=by
 refine z1e (yg (λa h=> ?_) (zap (n - m) m h1 (by have:=A.mn;lia) (A.rev (wu _)) (D.rev A)));exact⟨by show 1<=a;lia,h.2.1,h.2.2.1,h.2.2.2⟩
theorem z3E{m:Nat}{k:Nat->Int}(h1:m + 1<=n)(A:Ar n (m + 1) p)(F:Fal k (m + 1) 0 p):
  kOk n k (λr=>1<=r.1/\r.1<=n/\Ar n r.1 r.2/\Up k r.1 r.2) (kas_descPart m n p):=by
 refine z1e (yg (λa h=> ?_) (z3R (n - (m + 1)) p (m + 1) 0 (by lia) A F));obtain⟨b1,b2,b,c⟩:=h;by_cases q0:a.2.2 > 0
 ·rw [wY q0];exact z6p (by lia) (b.rev (wu _)) (c.dn b).1
 ·rw [wU q0];obtain⟨p',d,q'⟩:=a;obtain rfl:q'=0:=by simpa using q0
  exact z6p (by have:m + 1<=d:=b1;show 1<=d;lia) b c.dn0.1
theorem z8d{n:Nat}{k:Nat->Int}{p:Array Nat}:∀(f m:Nat),1<=m->m + f=n->Ar n m p->Up k m p->
  kOk n k (λb=>m<=b/\b<=n/\Ar n b p/\Up k b p/\(b < n->k (at' p b) < k (at' p (b - 1)))) (kas_asc p f m)
 | 0,m,_,d,A,U=>⟨wu _,by lia,A,U,λh=>by lia⟩
 | f + 1,m,h1,d,A,U=>by
  show kOk n k _ (KasT.ask _ _ _)
  rw [getD_at,getD_at];have l:=A.id m (wu _) (by lia);have q:=A.lo (m - 1) (by lia);refine z3g (by rw [l];lia) (by lia) (λc=> ?_) λc=> ?_
  ·skip
   exact⟨wu _,by lia,A,U,λ_=>c⟩
  ·skip
   refine yg (λa h=>⟨by lia,h.2⟩) (z8d f (m + 1) (by lia) (by lia) (A.up (by lia) (by lia)) ?_);have last:Rk k (at' p (m - 1)) (at' p m):=by unfold Rk;lia
   intro i j o r;by_cases e:j < m
   ·exact U i j o e
   ·obtain rfl:j=m:=by lia
    by_cases e2:i=j - 1
    ·rw [e2];exact last
    ·exact(U i (j - 1) (by lia) (by lia)).trans last
theorem zaP{k:Nat->Int}(hn:1<=n)(A:Ar n 1 p):kOk n k (λr=>1<=r.1/\r.1<=n/\Ar n r.1 r.2/\Up k r.1 r.2) (kas_count n p):=by
 refine z1e (yg (λm h=> ?_) (z8d (n - 1) 1 (wu _) (by lia) A (λi j a b=>by lia)));obtain⟨b1,b2,d,f,s⟩:=h;by_cases e:m=n
 ·rw [wY (by simpa using e)];exact⟨b1,b2,d,f⟩
 rw [wU (by simpa using e)];have hs:m<=p.size:=by rw [A.sz];exact b2
 have l:=s (by lia);by_cases e1:m > 1
 ·rw [wY e1]
  show kOk n k _ (KasT.ask _ _ _)
  rw [getD_at,getD_at];refine z3g (d.lt (by lia)) (d.lt (by lia)) (λc=> ?_) λc=> ?_
  ·exact⟨b1,b2,d,f⟩
  ·have o:Ar n m (kas_rev p 0 m):=d.rev (wu _);have q:∀i,i < m->k (at' p i)=k (at' p (m - 1)):=λi hi=>by
    have h0:k (at' p 0)<=k (at' p i):=by
     by_cases e:i=0
     ·rw [e];exact Int.le_refl _
     ·have:=f 0 i (by lia) hi;unfold Rk at this;lia
    have h1:k (at' p i)<=k (at' p (m - 1)):=by
     by_cases e:i=m - 1
     ·rw [<-e];exact Int.le_refl _
     ·have:=f i (m - 1) (by lia) (by lia);unfold Rk at this;lia
    lia
   have D:Dn k m (kas_rev p 0 m):=λi j w u=>by
    rw [z0j hs,z0j hs,wY (by lia),wY (by lia)];exact f _ _ (by lia) (by lia)
   refine z3E (by lia) (o.up (by lia) (by lia)) (Fal.step (n:=n) (y:=k (at' p (m - 1))) (by lia) D (λx t=> ?_) ?_)
   ·rw [z0j hs,wY (by lia)];have:=q (0 + m - 1 - x) (by lia)
    lia
   ·rw [z0j hs,wU (by lia)];exact l
 ·rw [wU e1];obtain rfl:m=1:=by lia
  refine z3E (by lia) (d.up (by lia) (by lia)) (Fal.step (n:=n) (y:=k (at' p 0)) (by lia) (λi j a b=>by lia) (λx t=> ?_) l);obtain rfl:x=0:=by lia
  exact Int.le_refl _
theorem z4k{n m:Nat}{k:Nat->Int}{p:Array Nat}(hm:m < n)(A:Ar n m p)(U:Up k m p):∀(f l r:Nat),l<=r->r<=m->r - l<=f->
  (∀i,i < l->k (at' p i)<=k (at' p m))->(∀i,r<=i->i < m->k (at' p m) < k (at' p i))->
  kOk n k (λd=>d<=m/\(∀i,i < d->k (at' p i)<=k (at' p m))/\∀i,d<=i->i < m->k (at' p m) < k (at' p i)) (kas_place p m f l r)
 | 0,l,r,h1,h2,h,a,b=>⟨by lia,a,λi x y=>b i (by lia) y⟩
 | f + 1,l,r,h1,h2,h,a,b=>by
  unfold kas_place;by_cases e:l≥r
  ·rw [wY e];exact⟨by lia,a,λi x y=>b i (by lia) y⟩
  rw [wU e,getD_at,getD_at];refine z3g (A.lt hm) (A.lt (by lia)) (λc=> ?_) λc=> ?_
  ·refine z4k hm A U f l ((l + r) / 2) (by lia) (by lia) (by lia) a λi x y=> ?_
   by_cases e2:i=(l + r) / 2
   ·rw [e2];exact c
   ·have:=U ((l + r) / 2) i (by lia) y;unfold Rk at this;lia
  ·refine z4k hm A U f ((l + r) / 2 + 1) r (by lia) (by lia) (by lia) (λi x=> ?_) b;by_cases e2:i=(l + r) / 2
   ·rw [e2];lia
   ·have:=U i ((l + r) / 2) (by lia) (by lia);unfold Rk at this;lia
theorem z9V{m d:Nat}(hm:m < p.size)(hd:d<=m)(x:Nat):at' (bubble p m d) x=if x=m - d then at' p m else if m - d < x/\x<=m then at' p (x - 1)else at' p x:=by
 unfold at';rw [getElem?_bubble hm d hd];split
 ·rfl
 ·split <;> rfl
theorem zbq{n:Nat}{k:Nat->Int}:∀(f:Nat) (p:Array Nat) (m:Nat),m + f=n->Ar n m p->Up k m p->
  kOk n k (λp'=>Ar n n p'/\Up k n p') (kas_bin f p m)
 | 0,p,m,h,A,U=>by
  obtain rfl:m=n:=by lia
  exact⟨A,U⟩
 | f + 1,p,m,h,A,U=>by
  have hs:m < p.size:=by rw [A.sz];lia
  have d:=A.id m (wu _) (by lia);refine z1e (yg (λl hl=> ?_) (z4k (by lia) A U m 0 m (by lia) (wu _) (by lia) (λi x=>by lia) (λi x y=>by lia)));obtain⟨c1,q,o⟩:=hl;have c:∀x,at' (bubble p m (m - l)) x=if x=l then at' p m else if l < x/\x<=m then at' p (x - 1)else at' p x:=λx=>by
   rw [z9V hs (by lia),show m - (m - l)=l by lia]
  refine zbq f _ (m + 1) (by lia) ⟨by rw [bubble_size,A.sz],by lia,λi a b=> ?_,λi a=> ?_,(bubble_perm _ _ _).trans A.pm⟩ λi j t s=> ?_
  ·rw [c,wU (by lia),wU (by lia)];exact A.id i (by lia) b
  ·rw [c];split
   ·lia
   ·split
    ·have:=A.lo (i - 1) (by lia);lia
    ·have:=A.lo i (by lia);lia
  ·rw [c,c];have e:∀x,x < m->at' p x < at' p m:=λx r=>by rw [d];exact A.lo x r
   by_cases e1:i=l
   ·rw [wY e1,wU (by lia),wY (by lia)];exact w02 (o (j - 1) (by lia) (by lia))
   ·rw [wU e1];by_cases e2:l < i/\i<=m
    ·rw [wY e2,wU (by lia),wY (by lia)];exact U _ _ (by lia) (by lia)
    ·rw [wU e2];by_cases e3:j=l
     ·rw [wY e3];have a:=q i (by lia);have b:=e i (by lia);unfold Rk;lia
     ·rw [wU e3];by_cases e4:l < j/\j<=m
      ·rw [wY e4];exact U _ _ (by lia) (by lia)
      ·rw [wU e4];exact U _ _ (by lia) (by lia)
theorem Ar.all:Ar n 0 (List.toArray (List.range n)):=by
 refine⟨by simp,Q6 _,λi _ h=> ?_,λi h=>by lia,Array.Perm.refl _⟩;unfold at';simp [h]
theorem zbS(hn:1<=n)(k:Nat->Int):kOk n k (λp=>p.toList.Perm (List.range n)/\p.toList.Pairwise (Rk k)) (kas_sort n):=by
 have fin:∀p:Array Nat,Ar n n p->Up k n p->p.toList.Perm (List.range n)/\p.toList.Pairwise (Rk k):=λp A U=>by
  refine⟨by have:=A.pm;rw [Array.perm_iff_toList_perm]at this;simpa using this,?_⟩;rw [QW];intro i j hi o q;have c:j < n:=by rw [<-A.sz];simpa using o
  have:=U i j q c;unfold at' at this;have d:i < p.size:=by rw [A.sz];lia
  have f:j < p.size:=by rw [A.sz];lia
  simpa [d,f]using this
 refine z1e (yg (λr h=> ?_) (zaP hn (Ar.all.up (by lia) hn)));obtain⟨b1,b2,a,b⟩:=h;by_cases e:r.1 < n
 ·rw [wY e];have hm:max r.1 1=r.1:=by lia
  rw [hm];exact yg (λp h=>fin p h.1 h.2) (zbq (n - r.1) r.2 r.1 (by lia) a b)
 ·rw [wU e];have l:r.1=n:=by lia
  rw [l]at a b;exact fin r.2 a b
end L2

namespace L2
open PySem PySem.Spec PyProof.Rows PySem.W
variable{ss:List Str}
theorem z7H:∀{us:List Value},zQ (ss.map V.str) us->StrsAre us ss:=by
 induction ss with
 | nil=>intro us r;rw [w0W]at r;cases r;exact .nil
 | cons n ns a=>
  intro us r;rw [qK]at r;cases r with
  | cons r1 r2=>
   obtain⟨t,rfl⟩:=r1;exact .cons _ _ (a r2)
variable{X:Cx}
theorem z2Y(hc:X.calm=true):kj X (.builtin "sum") (λxs H Q=>∃(a:Addr) (ns:List Int),xs= [.ref a]/\SqL X.K H a (ns.map V.int)/\Q (.int ns.sum) H):=by
 intro pins s σ H xs us Q I r h;obtain⟨a,ns,rfl,hq,q⟩:=h;obtain⟨u,rfl,e⟩:=vals1 r;cases e;obtain⟨its,r',pl,hz⟩:=I.list hq;have hi:IntsAre its.toArray.toList ns:=intsAre_of r';obtain⟨xs,b⟩:=hi.allInts.items;have c:s.heap.IsList a (intItems xs):=b ▸ pl.isList;refine sum_intListG (I.ok.hd hc) c λh' tk t' i=> ?_
 have f:ns=xs.toList.map (·.1):=by
  rw [<-nums_intItems,<-b];exact(show numsOf its.toArray.toList=ns from hi.numsOf).symm
 have d:preSum (numAt xs) xs.size=ns.sum:=by
  rw [preSum_eq,Qy (by simp),f]
 rw [d];exact⟨.int ns.sum,H,I.kept i,⟨_,rfl⟩,q⟩
def zbs(x:V)(z:Str):Prop:=(∃i:Int,x= .int i/\i.natAbs.log2 < 1920/\z=toString i)\/x= .str z
theorem z29:kj X (.type "str") (λxs H Q=>∃x z,xs= [x]/\zbs x z/\Q (.str z) H):=by
 intro pins s σ H xs us Q I r h;obtain⟨x,z,rfl,h,q⟩:=h;rcases h with⟨i,rfl,hi,rfl⟩ | rfl
 ·exact z64 pins s σ H _ us Q I r ⟨i,rfl,hi,q⟩
 ·obtain⟨u,rfl,t,rfl⟩:=vals1 r;exact PySem.P.str_of_str ⟨.str z,H,I,⟨_,rfl⟩,q⟩
def rJoin(K:W.Frag):V->List V->Hp->VK->Prop:=λx vs H Q=>∃z l ys,x= .str z/\vs= [.ref l]/\SqL K H l (ys.map V.str)/\(ys.map (·.length)).sum + ys.length * z.length<=16777216/\Q (.str (Str.join z ys)) H
theorem z8B:MtM X "str.join" (rJoin X.K):=by
 intro pins s σ H x vs v us Q I a c h;obtain⟨z,l,ys,rfl,rfl,hq,hz,q⟩:=h;obtain⟨t,rfl⟩:=a;obtain⟨u,rfl,b⟩:=c.one;cases b;obtain⟨its,r,pl,hsz⟩:=I.list hq;refine join_list (items:=its.toArray) pl.isList (z7H r) hz λt' k=> ?_
 have e:Txt.join z ys=Str.join z ys:=StrLaws.glued_eq_join _ _;rw [e];exact⟨.str _,H,I.tok _,⟨_,rfl⟩,q⟩
noncomputable def eqL(xs ys:List V):Bool:=decide (xs.length=ys.length) && (List.range xs.length).all λj=>eqV (xs.getD j .non) (ys.getD j .non)
theorem zb4{a:List Str}:eqL (ss.map V.str) (a.map V.str)=decide (ss=a):=by
 unfold eqL;rw [w9,w9];by_cases e:ss=a
 ·subst e;rw [wS rfl,wS rfl,w15,qQ];intro j b;rw [Qp]at b;rw [ww,wQ,we b]
  show(ss[j] == ss[j])=true
  exact w06 _
 ·rw [wL e];by_cases hl:ss.length=a.length
  ·rw [wS hl,w15,Qi];intro h;rw [qQ]at h;refine e (List.ext_getElem hl λj h1 h2=> ?_);have:=h j (Qp.mpr h1);rw [ww,wQ,we h1,ww,wQ,we h2]at this;have c:(ss[j] == a[j])=true:=this;exact eq_of_beq c
  ·rw [wL hl,w1B]
variable{a:Addr}{xs:List V}{ix:List Nat}{te:TE}{Q:List V->Hp->Prop}{H:Hp}
theorem z6W{K:W.Frag}{σ:St}{tc:TT}(c:Nat->List V->Hp->Prop)(h0:c 0 [] H)(hl:∀i ys H,i<=xs.length->c i ys H->SqT K H a xs/\ys.length < sizeLine)
  (hs:∀(i:Nat) x ys H,xs[i]? =some x->c i ys H->tc (sub σ ix (some x)) H λb H2=>if b=true then te (sub σ ix (some x)) H2 λy d=>c (i + 1) (ys ++ [y]) d else c (i + 1) ys H2) (hd:∀ys H,c xs.length ys H->Q ys H):z0G (Itt K a) σ ix tc te Q H:=by
 refine⟨λi m ys H=>m=xs.length - i/\i<=xs.length/\c i ys H,⟨_,rfl,Q6 _,h0⟩,?_⟩;rintro i m ys H ⟨rfl,hi,p⟩;obtain⟨q,hz⟩:=hl i ys H hi p;refine⟨hz,?_⟩;by_cases ag:i < xs.length
 ·refine .inr ⟨⟨xs,xs[i],q,by simp [ag]⟩,λy d=>c (i + 1) (ys ++ [y]) d,λH2=>c (i + 1) ys H2,λy d z=>⟨xs.length - (i + 1),by lia,rfl,ag,z⟩,λH2 z=>⟨xs.length - (i + 1),by lia,rfl,ag,z⟩,λx H' y=> ?_⟩;obtain⟨e,y⟩:=y;subst e;exact hs i x ys _ (y xs q) p
 ·have e:i=xs.length:=by lia
  subst e;exact .inl ⟨⟨xs,q,wu _⟩,hd ys H p⟩
def z5x{K:W.Frag}{σ:St}(b:Nat->List V->Hp->Prop)(h0:b 0 [] H)(hl:∀i ys H,i<=xs.length->b i ys H->SqT K H a xs/\ys.length < sizeLine)
  (hs:∀(i:Nat) x ys H,xs[i]? =some x->b i ys H->te (sub σ ix (some x)) H λy c=>b (i + 1) (ys ++ [y]) c) (hd:∀ys H,b xs.length ys H->Q ys H):z0G (Itt K a) σ ix z8T te Q H:=
 z6W b h0 hl (λi x ys H e p=>z9L (A:=te (sub σ ix (some x)) H λy c=>b (i + 1) (ys ++ [y]) c) (B:=b (i + 1) ys H) (hs i x ys H e p)) hd
theorem z5r{p q:Nat->Bool}:∀{l:List Nat},(∀x∈l,p x=true->q x=true)->(∃x∈l,q x=true/\p x=false)->l.countP p < l.countP q
 | [],_,⟨x,hx,_⟩=>by cases hx
 | y :: l,h,⟨x,hx,h1,h2⟩=>by
  have a:l.countP p<=l.countP q:=List.countP_mono_left λz hz=>h z (wV _ hz)
  rw [List.countP_cons,List.countP_cons];rcases wH.mp hx with rfl | hx
  ·rw [h1,h2];simp;lia
  ·have b:=z5r (λz hz=>h z (wV _ hz)) ⟨x,hx,h1,h2⟩;have c:=h y qF;cases hp:p y <;> cases hq:q y <;> simp_all <;> lia
noncomputable def rank(n:Nat)(lt:Nat->Nat->Bool)(i:Nat):Int:=(((List.range n).countP λm=>lt m i:Nat):Int)
variable{n:Nat}
theorem zcg{lt:Nat->Nat->Bool}(a:∀i,lt i i=false)(tr:∀i j k,lt i j=true->lt j k=true->lt i k=true)(nt:∀i j k,lt i k=true->lt i j=true\/lt j k=true){i j:Nat}(hi:i < n)(b:j < n):
  decide (rank n lt i < rank n lt j)=lt i j:=by
 cases h:lt i j with
 | true=>
  refine wS ?_;have:(List.range n).countP (λm=>lt m i) < (List.range n).countP (λm=>lt m j):=z5r (λx _ e=>tr x i j e h) ⟨i,Qp.mpr hi,h,a i⟩;unfold rank;lia
 | false=>
  refine wL ?_;have:(List.range n).countP (λm=>lt m j)<=(List.range n).countP (λm=>lt m i):=List.countP_mono_left λx _ e=>by
   rcases nt x i j e with h' | h'
   ·exact h'
   ·rw [h]at h';cases h'
  unfold rank;lia
variable{vs:List Value}
theorem zdT{R:Nat->Nat->Prop}(h:vs.length < 2):(List.range vs.length).Pairwise R:=by
 rcases(by lia:vs.length=0\/vs.length=1)with e | e <;> rw [e]
 ·exact List.Pairwise.nil
 ·exact List.pairwise_singleton _ _
theorem z9B{ks:List Value}(h:vs.length < 2)(e:ks.length=vs.length):(ks.toArray.zip vs.toArray).map (·.2)=((List.range vs.length).map λi=>vs.getD i Value.none).toArray:=by
 rcases vs with _ | ⟨x,_ | ⟨y,vs⟩⟩ <;> rcases ks with _ | ⟨k,_ | ⟨l,ks⟩⟩ <;> first | (exfalso;simp only [wP,Qo]at h e;lia) | simp
variable{prog:Program}{w:World}{A:Around}{E:Value->Shared->Prop}{s:Shared}
theorem z4X{P:PySem.Fin->Shared->Prop}{κ:SortKind}{k:Nat->Int}(f:s.heap.get? a=some (seqObj "list" vs.toArray n))(F:vs.length < 64)
  (B:2<=vs.length->∀(h':Heap) (Q:SortKind->Shared->Prop),(∀b o,b≠a->s.heap.get? b=some o->h'.get? b=some o)->Q κ {s with heap:=h'}->wpAny (model prog w) A (keyKind' vs.toArray) Q E {s with heap:=h'})
  (J:∀(h':Heap),(∀b o,b≠a->s.heap.get? b=some o->h'.get? b=some o)->∀i j (C:Bool->Shared->Prop),i < vs.length->j < vs.length->C (decide (k i < k j)) {s with heap:=h'}->
   wpAny (model prog w) A (keyLt' κ (vs.getD i Value.none) (vs.getD j Value.none)) C (λ_ _=>False) {s with heap:=h'})
  (h:∀t:List Nat,t.Perm (List.range vs.length)->t.Pairwise (Rk k)->P (.done (.ret .none)) {s with heap:=sortedHeap s.heap a vs (t.map λi=>vs.getD i Value.none).toArray}):
  wpAny (model prog w) A (Builtin.«list.sort» ⟨[.ref a],[]⟩) P E s:=by
 rw [list_sort_plain];have ha:a < s.heap.objs.size:=wN f;refine wC (listItems_at f rfl ?_);refine wC (listUpdate_at f rfl ?_);obtain⟨r,x⟩:∃r,(s.heap.update a (Obj.mapSeq λ_=> #[])).get? a=some (seqObj "list" #[] r):=⟨_,get?_update_seq f (λ_=> #[])⟩
 refine wC (seqEpoch_at x rfl ?_);refine wC (wpAny_newTuple ?_);refine wC (wpAny_newList ?_);refine QV ?_;have c:(((s.heap.update a (Obj.mapSeq λ_=> #[])).push (seqObj "tuple" vs.toArray 0)).push (seqObj "list" #[] 0)).get? a=some (seqObj "list" #[] r):=by
  rw [Heap.get?_push_ne _ _ _ (by rw [size_push',Heap.size_update];exact qe (Qd ha)),Heap.get?_push_ne _ _ _ (by rw [Heap.size_update];exact qe ha)];exact x
 have kp:∀b o,b≠a->s.heap.get? b=some o->(((s.heap.update a (Obj.mapSeq λ_=> #[])).push (seqObj "tuple" vs.toArray 0)).push (seqObj "list" #[] 0)).get? b=some o:=λb o y e=>by
  refine wo _ (wo _ ?_);rw [Heap.get?_update_ne _ _ _ _ y];exact e
 show wpAny (model prog w) A _ P E {s with heap:=((s.heap.update a (Obj.mapSeq λ_=> #[])).push (seqObj "tuple" vs.toArray 0)).push (seqObj "list" #[] 0)}
 dsimp only;have hsz:vs.toArray.size=vs.length:=by simp
 by_cases h2:vs.toArray.size < 2
 ·rw [wY h2,wY h2];refine wC (qd ?_);rw [StateT.run_pure];refine wC (qd ?_);dsimp only;refine wC (seqEpoch_at c rfl ?_);refine wC (listUpdate_at c rfl ?_ (hsz2:=by rw [Array.size_map];show(pairsOf vs).size<=_;rw [pairsOf_size,w04];lia));simp only [bne_self_eq_false,Bool.false_eq_true,w0B];have u:vs.length < 2:=by lia
  have l:(arrOf (SortSt.mk' general' (vs.toArray.zip vs.toArray) #[] 7 none)).map (·.2)=((List.range vs.length).map λi=>vs.getD i Value.none).toArray:=by
   have H:arrOf (SortSt.mk' general' (vs.toArray.zip vs.toArray) #[] 7 none)=vs.toArray.zip vs.toArray:=rfl;rw [H];exact z9B u rfl
  refine qd ?_;have:=h (List.range vs.length) (List.Perm.refl _) (zdT u);rw [<-l]at this;exact this
 ·rw [wU h2,wU h2];refine wC (B (by lia) _ _ kp ?_);refine wC (QR (kat_run (Q:=λd s'=>∃p:Array Nat,(arrOf d).map (·.2)=(p.toList.map λi=>vs.getD i Value.none).toArray/\failedOf d=none/\s'={s with heap:=((s.heap.update a (Obj.mapSeq λ_=> #[])).push (seqObj "tuple" vs.toArray 0)).push (seqObj "list" #[] 0)}/\p.toList.Perm (List.range vs.length)/\p.toList.Pairwise (Rk k)) (vs:=vs) (ks:=vs) (G:=λp s'=>s'={s with heap:=((s.heap.update a (Obj.mapSeq λ_=> #[])).push (seqObj "tuple" vs.toArray 0)).push (seqObj "list" #[] 0)}/\p.toList.Perm (List.range vs.length)/\p.toList.Pairwise (Rk k)) rfl (by lia) F (λp d s' h1 I q K=>⟨p,kat_snds rfl I,q,K⟩)
   (zbc (n:=vs.length) (k:=k) (λi j C hi D L=>J _ kp i j C hi D L) (yg (λp hp=>⟨rfl,hp⟩) (zbS (by lia) k)))) ?_ λ_ _ e=>e)
  rintro⟨⟨⟩,d⟩ s' ⟨p,l,q,rfl,pm,z⟩;dsimp only;refine wC (seqEpoch_at c rfl ?_);refine wC (listUpdate_at c rfl ?_ (hsz2:=by rw [l,wB,w9,pm.length_eq,List.length_range,w04];lia));rw [q];simp only [bne_self_eq_false,Bool.false_eq_true,w0B];have:=h p.toList pm z;rw [<-l]at this;exact qd this
noncomputable def z1D(a b:Int×Int):Bool:=decide (a.1 < b.1\/(a.1=b.1/\a.2 < b.2))
theorem zcx{x y:Addr}{a b c d:Int}{t u v z:Tok}{C:Bool->Shared->Prop}(p:IsTup s.heap x #[.int a t,.int b u])(i:IsTup s.heap y #[.int c v,.int d z])(h:C (z1D (a,b) (c,d)) s):
  wpAny (model prog w) A (keyLt' (tuples' true) (.ref x) (.ref y)) C E s:=by
 obtain⟨r,f,_,q,j⟩:=p;obtain⟨B,l,_,D,o⟩:=i;refine kat_lt f j l o ?_;refine kat_cons (SeqAt.EqAt.int_int a t c v prog w _ _ (kat_go (λe=>kat_yes ?_) (λe=>kat_no ?_)))
 ·have n:a=c:=by simpa using e
  refine kat_cons (SeqAt.EqAt.int_int b u d z prog w _ _ (kat_go (λe=>kat_yes (kat_nil ?_)) (λe=>kat_no ?_)))
  ·have F:b=d:=by simpa using e
   have:z1D (a,b) (c,d)=false:=wL (by simp only;lia);rw [this]at h
   simpa using h
  ·have:z1D (a,b) (c,d)=decide (b < d):=by
    unfold z1D;exact w1c.mpr (by simp only;lia)
   rw [this]at h;refine kat_one _ _ ?_;exact PyProof.Rows.lt_int (Q:=PySem.W.BoolBack C) h
 ·have n:¬a=c:=by simpa using e
  have:z1D (a,b) (c,d)=decide (a < c):=by
   unfold z1D;exact w1c.mpr (by simp only;lia)
  rw [this]at h;exact oneLt_int h
theorem zaC(a:Int×Int):z1D a a=false:=wL (by lia)
variable{b c:Int×Int}
theorem zcJ{a:Int×Int}(h:z1D a b=true)(h':z1D b c=true):z1D a c=true:=by
 have h:=qD h;have h':=qD h';exact wS (by lia)
theorem zc9{a:Int×Int}(h:z1D a c=true):z1D a b=true\/z1D b c=true:=by
 have h:=qD h;by_cases e:z1D a b=true
 ·exact .inl e
 ·refine .inr (wS ?_);have d:¬(a.1 < b.1\/(a.1=b.1/\a.2 < b.2)):=λz=>e (wS z)
  lia
abbrev PQ:=Addr×Int×Int
noncomputable def pq0:PQ:=(0,0,0)
theorem z8o{H:Hp}{s:Shared}{pins:List (Addr×Obj)}{σ:St}(I:Inv X pins σ H s){h':Heap}(kp:∀b o xs n,s.heap.get? b=some o->o.data= .seq xs n->o.cls= .type "tuple"->h'.get? b=some o):∀(ps:List PQ) (us:List Value),(∀p∈ps,H p.1=some (.tup [.int p.2.1,.int p.2.2]))->zQ (ps.map λp=>V.ref p.1) us->
  ∃fs:List Value,KatTups h' us fs/\fs.length=ps.length/\∀v∈fs,∃a t,v=Value.int a t
 | [],us,_,r=>by cases r;exact⟨[],.nil,rfl,λv h=>by cases h⟩
 | p :: ps,us,hp,r=>by
  rw [qK]at r;cases r with
  | cons r1 r2=>
   cases r1;obtain⟨fs,k,l,hi⟩:=z8o I kp ps _ (λq hq=>hp q (wV _ hq)) r2;obtain⟨its,r',pl,_⟩:=I.tuple (SqT.of (hp p qF));obtain⟨u,w',rfl,⟨t,rfl⟩,_⟩:=vals2 r';obtain⟨o,d,c,n,hd⟩:=pl;refine⟨.int p.2.1 t :: fs,KatTups.cons (kp _ _ _ _ d hd c) c hd rfl k,by rw [wP,l,wP],λv hv=> ?_⟩;rcases wH.mp hv with rfl | hv
   ·exact⟨_,_,rfl⟩
   ·exact hi v hv
theorem z6g(hc:X.calm=true):kj X (.builtin "sorted") (λxs H Q=>∃(l:Addr) (ps:List PQ),xs= [.ref l]/\SqL X.K H l (ps.map λp=>V.ref p.1)/\(∀p∈ps,H p.1=some (.tup [.int p.2.1,.int p.2.2]))/\ps.length < 64/\
  ∀(r:Addr) (c:List Nat),H r=none->c.Perm (List.range ps.length)->c.Pairwise (λi j=>z1D (ps.getD j pq0).2 (ps.getD i pq0).2=false)->Q (.ref r) (upd H r (.lst (c.map λi=>V.ref (ps.getD i pq0).1)))):=by
 intro pins s σ H xs us Q I r h;obtain⟨l,ps,rfl,hq,hp,nQ,q⟩:=h;obtain⟨u,rfl,rx⟩:=vals1 r;cases rx;obtain⟨vs,A,pl,hz⟩:=I.list hq;have hlen:vs.length=ps.length:=by
  have:=A.length;rw [w9]at this
  lia
 refine Calls.call_function_entry kind_sorted plain_sorted entry_sorted (args_sorted1 _) ?_;unfold Builtin.«sorted»;refine wC (m:=checkCount "sorted" 1 1 _) (qd ?_);refine wC (collect_list pl.isList ?_ (by rw [w04];lia));refine wC (wpAny_newList ?_ (by rw [w04];lia));obtain⟨h1,J⟩:∃h1,(s.heap.push (seqObj "list" #[] 0)).update s.heap.objs.size (Obj.mapSeq (· ++ vs.toArray))=h1:=⟨_,rfl⟩
 have F:∀b o,s.heap.get? b=some o->h1.get? b=some o:=λb o e=>by
  have d:=wN e;rw [<-J,Heap.get?_update_ne _ _ _ _ (qe d)];exact wo _ e
 rw [J];have G:Inv X pins σ H {s with heap:=h1}:=I.kept (t':=s.toks) F;have D:(h1.push (seqObj "list" vs.toArray 0)).get? h1.objs.size=some (seqObj "list" vs.toArray 0):=qi _ rfl;have z:∀b o,s.heap.get? b=some o->b≠h1.objs.size/\(h1.push (seqObj "list" vs.toArray 0)).get? b=some o:=λb o e=>⟨qe (wN (F b o e)),wo _ (F b o e)⟩
 obtain⟨lt,y⟩:∃lt:Nat->Nat->Bool,lt=λi j=>z1D (ps.getD i pq0).2 (ps.getD j pq0).2:=⟨_,rfl⟩
 have N:∀{i j:Nat},i < ps.length->j < ps.length->decide (rank ps.length lt i < rank ps.length lt j)=lt i j:=λhi f=>
  zcg (λi=>by rw [y];exact zaC _) (λi j k a b=>by rw [y]at *;exact zcJ a b) (λi j k a=>by rw [y]at *;exact zc9 a) hi f
 refine wC (QV (wpAny_call_entry slot_list_sort ⟨_,D,rfl⟩ entry_list_sort (z4X (κ:=tuples' true) (k:=rank ps.length lt) D (by lia) (λh2 h' Q' kp R=> ?kk) (λh' kp i j C hi f M=> ?cm) λc pm Z=>⟨_,rfl,?fin⟩) (args_list_sort _)))
 case kk=>
  obtain⟨fs,k,lf,hi⟩:=z8o I (h':=h') (λb o xs n e _ _=>kp b o (z b o e).1 (z b o e).2) ps vs hp A;refine kat_kind (T:= .type "int") k (by lia) (λv Y=> ?_) (by decide) R;obtain⟨a,t,rfl⟩:=hi v Y;exact .now
 case cm=>
  have get:∀m,m < ps.length->∃(t u:Tok),vs.getD m Value.none= .ref (ps.getD m pq0).1/\IsTup h' (ps.getD m pq0).1 #[.int (ps.getD m pq0).2.1 t,.int (ps.getD m pq0).2.2 u]:=λm hm=>by
   have g:(ps.map λp=>V.ref p.1)[m]? =some (V.ref ps[m].1):=by rw [wQ,we hm];rfl
   have O:ps.getD m pq0=ps[m]:=by rw [ww,we hm];rfl
   obtain⟨w,E,B⟩:=A.get g;cases B;obtain⟨its,r',pl,_⟩:=I.tuple (SqT.of (hp _ (wI hm)));obtain⟨u,w',rfl,⟨t,rfl⟩,⟨t',rfl⟩⟩:=vals2 r';obtain⟨o,L,bG,n,hd⟩:=pl;refine⟨t,t',?_,?_⟩
   ·rw [ww,E,O];rfl
   ·rw [O];exact⟨o,kp _ _ (z _ _ L).1 (z _ _ L).2,bG,n,hd⟩
  obtain⟨t,u,U,t1⟩:=get i (by lia);obtain⟨t',u',e2,t2⟩:=get j (by lia);rw [U,e2];rw [N (by lia) (by lia),y]at M;exact zcx t1 t2 M
 case fin=>
  refine qd ⟨_,rfl,?_⟩;obtain⟨e,he⟩:=sortedHeap_at (out:=(c.map λi=>vs.getD i Value.none).toArray) D;rw [hlen]at pm;have vJ:c.Pairwise (λi j=>z1D (ps.getD j pq0).2 (ps.getD i pq0).2=false):=by
   refine(QW.mpr λa b ha d S=> ?_);have h0:=QW.mp Z a b ha d S;have P:c[a] < ps.length:=Qp.mp (pm.mem_iff.mp (wI ha));have mb:c[b] < ps.length:=Qp.mp (pm.mem_iff.mp (wI d));have:=N mb P;have e3:lt c[b] c[a]=z1D (ps.getD c[b] pq0).2 (ps.getD c[a] pq0).2:=by rw [y]
   rw [<-e3,<-this];refine wL ?_;unfold Rk at h0
   lia
  refine⟨.ref h1.objs.size,upd H h1.objs.size (.lst (c.map λi=>V.ref (ps.getD i pq0).1)),?_,rfl,q _ c G.fresh pm vJ⟩;refine G.laid (a:=h1.objs.size) (t':=s.toks) (λb o e=> ?_) (wu _) ⟨?_,c.map λi=>vs.getD i Value.none,e,?_,?_⟩
  ·have d:=wN e;rw [sortedHeap_old (qe d) (by rw [Qq];exact Qd d)];exact wo _ e
  ·rw [w9,pm.length_eq,List.length_range];exact je (by lia)
  ·have go:∀x:List Nat,(∀j∈x,j < ps.length)->zQ (x.map λi=>V.ref (ps.getD i pq0).1) (x.map λi=>vs.getD i Value.none):=λx=>by
    induction x with
    | nil=>intro _;exact .nil
    | cons j x ih=>
     intro f;rw [qK,qK];refine .cons ?_ (ih λm hm=>f m (wV _ hm));have hm:=f j qF;have g:(ps.map λp=>V.ref p.1)[j]? =some (V.ref ps[j].1):=by rw [wQ,we hm];rfl
     obtain⟨w,E,B⟩:=A.get g;rw [ww,we hm,ww,E];exact B
   exact go c λj f=>Qp.mp (pm.mem_iff.mp f)
  ·exact he
@[elab_as_elim] theorem ze {motive:Hp->Prop}  {p:Addr} {o:HO} (K:Hp) (e:K=upd H p o) (hp:H p=none) (h:∀H',zz H H'->H' p=some o->motive H'):motive K:=by
 subst e;exact h _ (zJ hp o) zl
end L2

namespace Qs
open PySem L2 Cn Rw
inductive Qn where
 | table (n:Str) | pick (c:Cond) (q:Qn) | cols (ns:List Str) (q:Qn) | pair (q r:Qn) | join (a b:Str) (q r:Qn)
 | both (q r:Qn) | first (n:Int) (q:Qn) | group (a b n s:Str) (q:Qn) | sort (a:Str) (q:Qn)
def QAt(H:Hp):Qn->V->Prop
 | .table n,v=>∃p,v= .ref p/\H p=some (.tup [.str "table",.str n])
 | .pick c q,v=>∃p x y,v= .ref p/\H p=some (.tup [.str "pick",x,y])/\zG H c x/\QAt H q y
 | .cols ns q,v=>∃p x y,v= .ref p/\H p=some (.tup [.str "cols",.ref x,y])/\H x=some (.tup (ns.map V.str))/\QAt H q y
 | .pair q r,v=>∃p x y,v= .ref p/\H p=some (.tup [.str "pair",x,y])/\QAt H q x/\QAt H r y
 | .join a b q r,v=>∃p x y,v= .ref p/\H p=some (.tup [.str "join",.str a,.str b,x,y])/\QAt H q x/\QAt H r y
 | .both q r,v=>∃p x y,v= .ref p/\H p=some (.tup [.str "both",x,y])/\QAt H q x/\QAt H r y
 | .first n q,v=>∃p y,v= .ref p/\H p=some (.tup [.str "first",.int n,y])/\QAt H q y
 | .group a b n s q,v=>∃p y,v= .ref p/\H p=some (.tup [.str "group",.str a,.str b,.str n,.str s,y])/\QAt H q y
 | .sort a q,v=>∃p y,v= .ref p/\H p=some (.tup [.str "sort",.str a,y])/\QAt H q y
theorem QAt.mono{H H':Hp}(t:∀b xs,H b=some (.tup xs)->H' b=some (.tup xs)):∀{q:Qn} {v:V},QAt H q v->QAt H' q v
 | .table _,_,h=>by
  obtain⟨p,rfl,h⟩:=h;exact⟨p,rfl,t _ _ h⟩
 | .pick _ _,_,h=>by
  obtain⟨p,x,y,rfl,h,h1,h2⟩:=h;exact⟨p,x,y,rfl,t _ _ h,h1.mono t,h2.mono t⟩
 | .cols _ _,_,h=>by
  obtain⟨p,x,y,rfl,h,h1,h2⟩:=h;exact⟨p,x,y,rfl,t _ _ h,t _ _ h1,h2.mono t⟩
 | .pair _ _,_,h=>by
  obtain⟨p,x,y,rfl,h,h1,h2⟩:=h;exact⟨p,x,y,rfl,t _ _ h,h1.mono t,h2.mono t⟩
 | .join _ _ _ _,_,h=>by
  obtain⟨p,x,y,rfl,h,h1,h2⟩:=h;exact⟨p,x,y,rfl,t _ _ h,h1.mono t,h2.mono t⟩
 | .both _ _,_,h=>by
  obtain⟨p,x,y,rfl,h,h1,h2⟩:=h;exact⟨p,x,y,rfl,t _ _ h,h1.mono t,h2.mono t⟩
 | .first _ _,_,h=>by
  obtain⟨p,y,rfl,h,h2⟩:=h;exact⟨p,y,rfl,t _ _ h,h2.mono t⟩
 | .group _ _ _ _ _,_,h=>by
  obtain⟨p,y,rfl,h,h2⟩:=h;exact⟨p,y,rfl,t _ _ h,h2.mono t⟩
 | .sort _ _,_,h=>by
  obtain⟨p,y,rfl,h,h2⟩:=h;exact⟨p,y,rfl,t _ _ h,h2.mono t⟩
theorem QAt.same{H H':Hp}{q:Qn}{v:V}(e:zz H H')(h:QAt H q v):QAt H' q v:=h.mono λb xs z=>e b _ z
noncomputable def Side.txt:Side->Str
 | .nm s=>s
 | .nu i=>toString i
noncomputable def ends(a b:Side):Str:=Side.txt a ++ " " ++ Side.txt b
noncomputable def yu:Cond->Str
 | .less a b=>"(" ++ "less" ++ " " ++ ends a b ++ ")"
 | .same a b=>"(" ++ "same" ++ " " ++ ends a b ++ ")"
 | .no c=>"(" ++ "not" ++ " " ++ yu c ++ ")"
 | .an c d=>"(" ++ "and" ++ " " ++ (yu c ++ " " ++ yu d) ++ ")"
 | .or c d=>"(" ++ "or" ++ " " ++ (yu c ++ " " ++ yu d) ++ ")"
noncomputable def zD:Qn->Str
 | .table n=>n
 | .pick c q=>"(pick " ++ yu c ++ " " ++ zD q ++ ")"
 | .cols ns q=>"(cols " ++ Str.join " " ns ++ " " ++ zD q ++ ")"
 | .pair q r=>"(pair " ++ zD q ++ " " ++ zD r ++ ")"
 | .join a b q r=>"(join " ++ a ++ " " ++ b ++ " " ++ zD q ++ " " ++ zD r ++ ")"
 | .both q r=>"(both " ++ zD q ++ " " ++ zD r ++ ")"
 | .first n q=>"(first " ++ (toString n:Str) ++ " " ++ zD q ++ ")"
 | .group a b n s q=>"(group " ++ (a ++ " " ++ b ++ " " ++ n ++ " " ++ s) ++ " " ++ zD q ++ ")"
 | .sort a q=>"(sort " ++ a ++ " " ++ zD q ++ ")"
noncomputable def leK(k:Nat->Int)(i j:Nat):Bool:=decide (k i < k j\/(k i=k j/\i<=j))
noncomputable def z2A(k:Nat->Int)(n:Nat):List Nat:=(List.range n).mergeSort (leK k)
theorem z0O(k:Nat->Int)(n:Nat):(z2A k n).Perm (List.range n):=List.mergeSort_perm _ _
theorem z7W(k:Nat->Int)(n:Nat):(z2A k n).Pairwise λi j=>leK k i j=true:=
 List.pairwise_mergeSort (λa b c h1 h2=>by
  have h1:=qD h1;have h2:=qD h2;exact wS (by lia)) (λa b=>by
  unfold leK;rw [Bool.or_eq_true,decide_eq_true_eq,decide_eq_true_eq]
  lia) _
theorem z71{k:Nat->Int}{n:Nat}{c:List Nat}(hp:c.Perm (List.range n))(d:c.Pairwise λi j=>leK k i j=true):c=z2A k n:=by
 refine List.Perm.eq_of_pairwise (le:=λi j=>leK k i j=true) (λa b _ _ h1 h2=> ?_) d (z7W k n) (hp.trans (z0O k n).symm);have h1:=qD h1;have h2:=qD h2
 lia
theorem z7S(k:Nat->Int)(n:Nat):(z2A k n).length=n:=by rw [(z0O k n).length_eq,List.length_range]
noncomputable def z3v(rows:List (List Int))(s:Nat)(i:Nat):Int:=(rows.getD i []).getD s 0
noncomputable def z06(s:Nat)(rows:List (List Int)):List (List Int):=(z2A (z3v rows s) rows.length).map λi=>rows.getD i []
noncomputable def z0P(s:Nat)(rows:List (List Int)):List Int:=rows.foldl (λa r=>if r.getD s 0∈a then a else a ++ [r.getD s 0]) []
noncomputable def z44(s p:Nat)(rows:List (List Int))(k:Int):List Int:= [k,(((rows.filter λr=>decide (r.getD s 0=k)).length:Nat):Int),((rows.filter λr=>decide (r.getD s 0=k)).map λr=>r.getD p 0).sum]
noncomputable def zae(s p:Nat)(rows:List (List Int)):List (List Int):=(z0P s rows).map (z44 s p rows)
noncomputable def pairs(xs ys:List (List Int)):List (List Int):=xs.flatMap λx=>ys.map λy=>x ++ y
section
variable(th:Str->List Str)(tr:Str->List (List Int))
noncomputable def za:Qn->List Str
 | .table n=>th n
 | .pick _ q=>za q
 | .cols ns _=>ns
 | .pair q r=>za q ++ za r
 | .join _ _ q r=>za q ++ za r
 | .both q _=>za q
 | .first _ q=>za q
 | .group a _ n s _=> [a,n,s]
 | .sort _ q=>za q
noncomputable def rowsOf:Qn->List (List Int)
 | .table n=>tr n
 | .pick c q=>(rowsOf q).filter λr=>ev (za th q) r c
 | .cols ns q=>(rowsOf q).map λr=>ns.map λn=>r.getD ((za th q).idxOf n) 0
 | .pair q r=>pairs (rowsOf q) (rowsOf r)
 | .join a b q r=>(pairs (rowsOf q) (rowsOf r)).filter λz=>decide (z.getD ((za th q ++ za th r).idxOf a) 0=z.getD ((za th q ++ za th r).idxOf b) 0)
 | .both q r=>rowsOf q ++ rowsOf r
 | .first n q=>(rowsOf q).take n.toNat
 | .group a b _ _ q=>zae ((za th q).idxOf a) ((za th q).idxOf b) (rowsOf q)
 | .sort a q=>z06 ((za th q).idxOf a) (rowsOf q)
end
noncomputable def jj:List Str:= ["a","b","f","g","h","i","j","k","l","o","p","q"]
noncomputable def z2B:List Str:= ["abcabcabcd","abcabcabce"]
noncomputable def signs:List Str:= ["a","b","c","d","e","f","g","h","i","j","k","l","m","n","o","p","q","r","s","t","u","v","w","x","y","z"]
noncomputable def z0e(k used:Nat):List Str:=jj ++ (if 2<=used then z2B else []) ++ (if 3<=used then(["e"]:List Str)else []) ++ ((signs.take k).map λs=>(("n":Str) ++ s:Str)) ++ ((signs.take k).map λs=>(("s":Str) ++ s:Str))
noncomputable def tabs:List Str:= ["t","tuvtuvtuvw","tuvtuvtuvx"]
noncomputable def nums:List Int:= [0,1,-1,2,10 ^ 30,3]
noncomputable def z0k:List Int:= [9,1,5,3,12,7,0,10 ^ 9,4,2,8]
def Side.small(hs:List Str):Side->Prop
 | .nm s=>s∈hs
 | .nu i=>i∈nums
def jB(hs:List Str):Cond->Prop
 | .less a b=>Side.small hs a/\Side.small hs b
 | .same a b=>Side.small hs a/\Side.small hs b
 | .no c=>jB hs c
 | .an c d=>jB hs c/\jB hs d
 | .or c d=>jB hs c/\jB hs d
theorem jB.ok{hs:List Str}:∀{c:Cond},jB hs c->c.ok hs
 | .less a b,h=>by
  refine⟨?_,?_⟩
  ·cases a with
   | nm s=>exact h.1
   | nu i=>trivial
  ·cases b with
   | nm s=>exact h.2
   | nu i=>trivial
 | .same a b,h=>by
  refine⟨?_,?_⟩
  ·cases a with
   | nm s=>exact h.1
   | nu i=>trivial
  ·cases b with
   | nm s=>exact h.2
   | nu i=>trivial
 | .no c,h=>jB.ok (c:=c) h
 | .an c d,h=>⟨jB.ok h.1,jB.ok h.2⟩
 | .or c d,h=>⟨jB.ok h.1,jB.ok h.2⟩
def okQ(th:Str->List Str):Qn->Prop
 | .table n=>n∈tabs
 | .pick c q=>jB (za th q) c/\c.size<=6/\okQ th q
 | .cols ns q=>ns≠ []/\ns.Nodup/\(∀n∈ns,n∈za th q)/\okQ th q
 | .pair q r=>(∀n∈za th q,n∉za th r)/\okQ th q/\okQ th r
 | .join a b q r=>a∈za th q/\b∈za th r/\(∀n∈za th q,n∉za th r)/\okQ th q/\okQ th r
 | .both q r=>za th q=za th r/\okQ th q/\okQ th r
 | .first n q=>n∈z0k/\okQ th q
 | .group a b n s q=>a∈za th q/\b∈za th q/\(∃g∈signs,n=("n":Str) ++ g/\s=("s":Str) ++ g)/\a≠n/\a≠s/\okQ th q
 | .sort a q=>a∈za th q/\okQ th q
noncomputable def depth:Qn->Nat
 | .table _=>1
 | .pick _ q=>depth q + 1
 | .cols _ q=>depth q + 1
 | .pair q r=>max (depth q) (depth r) + 1
 | .join _ _ q r=>max (depth q) (depth r) + 1
 | .both q r=>max (depth q) (depth r) + 1
 | .first _ q=>depth q + 1
 | .group _ _ _ _ q=>depth q + 1
 | .sort _ q=>depth q + 1
structure TabOk(th:Str->List Str)(tr:Str->List (List Int)):Prop where
 t:∃m,2<=m/\m<=12/\th "t"=jj.take m
 w:th "tuvtuvtuvw"=z2B
 x:th "tuvtuvtuvx"=(["e"]:List Str)
 rl:∀n∈tabs,∀r∈tr n,r.length=(th n).length
 ct:(tr "t").length<=60
 cw:(tr "tuvtuvtuvw").length<=10
 cx:(tr "tuvtuvtuvx").length<=10
theorem z7o:jj.Nodup:=by decide +kernel
theorem zek:∀g∈signs,(("n":Str) ++ g:Str)≠(("s":Str) ++ g:Str):=by decide +kernel
section
variable{th:Str->List Str}{tr:Str->List (List Int)}
theorem TabOk.hd(T:TabOk th tr):∀n∈tabs,th n≠ []/\(th n).Nodup:=by
 obtain⟨m,b,a,e⟩:=T.t;have ht:th "t"≠ []/\(th "t").Nodup:=by
  rw [e];refine⟨λz=> ?_,z7o.sublist (List.take_sublist _ _)⟩;have:=Qj List.length z;rw [wX]at this;simp [jj]at this
  lia
 intro n hn;simp only [tabs,wH,qz,QD]at hn;rcases hn with rfl | rfl | rfl
 ·exact ht
 ·rw [T.w];exact⟨by decide +kernel,by decide +kernel⟩
 ·rw [T.x];exact⟨by decide +kernel,by decide +kernel⟩
theorem jA(T:TabOk th tr):∀{q:Qn},okQ th q->za th q≠ []/\(za th q).Nodup
 | .table n,h=>T.hd n h
 | .pick _ q,h=>jA T (q:=q) h.2.2
 | .cols ns q,h=>⟨h.1,h.2.1⟩
 | .pair q r,h=>by
  have h1:=jA T (q:=q) h.2.1;have h2:=jA T (q:=r) h.2.2;refine⟨by show _ ++ _≠_;simp [h1.1],QS.mpr ⟨h1.2,h2.2,λa ha b c e=>h.1 a ha (e ▸ c)⟩⟩
 | .join a b q r,h=>by
  have h1:=jA T (q:=q) h.2.2.2.1;have h2:=jA T (q:=r) h.2.2.2.2;refine⟨by show _ ++ _≠_;simp [h1.1],QS.mpr ⟨h1.2,h2.2,λa ha b c e=>h.2.2.1 a ha (e ▸ c)⟩⟩
 | .both q r,h=>jA T (q:=q) h.2.1
 | .first _ q,h=>jA T (q:=q) h.2
 | .group a b n s q,h=>by
  obtain⟨_,_,⟨g,d,rfl,rfl⟩,h1,h2,_⟩:=h;refine⟨by show [_,_,_]≠ [];simp,?_⟩
  show List.Nodup [a,_,_]
  simp [h1,h2,zek g d]
 | .sort _ q,h=>jA T (q:=q) h.2
theorem z24{xs ys:List (List Int)}{z:List Int}(h:z∈pairs xs ys):∃x∈xs,∃y∈ys,z=x ++ y:=by
 obtain⟨x,a,h⟩:=List.mem_flatMap.mp h;obtain⟨y,b,e⟩:=qI.mp h;exact⟨x,a,y,b,e.symm⟩
theorem z5H{s:Nat}{rows:List (List Int)}{r:List Int}(h:r∈z06 s rows):r∈rows:=by
 obtain⟨i,hi,e⟩:=qI.mp h;have hl:=Qp.mp ((z0O _ _).mem_iff.mp hi);rw [<-e,ww,we hl];exact wI hl
theorem jK(T:TabOk th tr):∀{q:Qn},okQ th q->∀r∈rowsOf th tr q,r.length=(za th q).length
 | .table n,h=>λr m=>T.rl n h r m
 | .pick c q,h=>λr m=>jK T (q:=q) h.2.2 r (Qz.mp m).1
 | .cols ns q,h=>λr m=>by
  obtain⟨x,_,rfl⟩:=qI.mp m;rw [w9];rfl
 | .pair q s,h=>λr m=>by
  obtain⟨x,e,y,d,rfl⟩:=z24 m
  show _=(za th q ++ za th s).length
  rw [wg,wg,jK T (q:=q) h.2.1 x e,jK T (q:=s) h.2.2 y d]
 | .join a b q s,h=>λr m=>by
  obtain⟨x,e,y,d,rfl⟩:=z24 (Qz.mp m).1
  show _=(za th q ++ za th s).length
  rw [wg,wg,jK T (q:=q) h.2.2.2.1 x e,jK T (q:=s) h.2.2.2.2 y d]
 | .both q s,h=>λr m=>by
  rcases wA.mp m with m | m
  ·exact jK T (q:=q) h.2.1 r m
  ·have:=jK T (q:=s) h.2.2 r m;rw [<-h.1]at this;exact this
 | .first n q,h=>λr m=>jK T (q:=q) h.2 r (QK m)
 | .group a b n s q,h=>λr m=>by
  obtain⟨x,_,rfl⟩:=qI.mp m
  rfl
 | .sort a q,h=>λr m=>jK T (q:=q) h.2 r (z5H m)
end
end Qs
namespace Qs
open PySem L2 Cn Rw
theorem z6T:∀s∈jj,s.length<=10:=by decide +kernel
theorem zf3:∀s∈z2B,s.length<=10:=by decide +kernel
theorem zem:∀s∈(["e"]:List Str),s.length<=10:=by decide +kernel
theorem z2H:∀g∈signs,(("n":Str) ++ g:Str).length<=10/\(("s":Str) ++ g:Str).length<=10/\g.length=1:=by decide +kernel
variable{th:Str->List Str}{tr:Str->List (List Int)}
theorem z5s(T:TabOk th tr):∀n∈tabs,∀s∈th n,s.length<=10:=by
 obtain⟨m,b,a,e⟩:=T.t;have ht:∀s∈th "t",s.length<=10:=by
  rw [e];exact λs hs=>z6T s (QK hs)
 intro n hn;simp only [tabs,wH,qz,QD]at hn;rcases hn with rfl | rfl | rfl
 ·exact ht
 ·rw [T.w];exact zf3
 ·rw [T.x];exact zem
theorem j8(T:TabOk th tr):∀{q:Qn},okQ th q->∀s∈za th q,s.length<=10
 | .table n,h=>z5s T n h
 | .pick _ q,h=>j8 T (q:=q) h.2.2
 | .cols ns q,h=>λs hs=>j8 T (q:=q) h.2.2.2 s (h.2.2.1 s hs)
 | .pair q r,h=>λs hs=>by
  rcases wA.mp hs with hs | hs
  ·exact j8 T (q:=q) h.2.1 s hs
  ·exact j8 T (q:=r) h.2.2 s hs
 | .join a b q r,h=>λs hs=>by
  rcases wA.mp hs with hs | hs
  ·exact j8 T (q:=q) h.2.2.2.1 s hs
  ·exact j8 T (q:=r) h.2.2.2.2 s hs
 | .both q r,h=>j8 T (q:=q) h.2.1
 | .first _ q,h=>j8 T (q:=q) h.2
 | .group a b n s q,h=>λx e=>by
  obtain⟨ha,_,⟨g,d,rfl,rfl⟩,_,_,hq⟩:=h;have c:x∈ [a,("n":Str) ++ g,("s":Str) ++ g]:=e;simp only [wH,qz,QD]at c;rcases c with rfl | rfl | rfl
  ·exact j8 T (q:=q) hq _ ha
  ·exact(z2H g d).1
  ·exact(z2H g d).2.1
 | .sort _ q,h=>j8 T (q:=q) h.2
def kE(th:Str->List Str)(tr:Str->List (List Int))(H:Hp)(v:V)(q:Qn):Prop:=∃(p:Addr) (qv:V) (hp rp:Addr) (rs:List (Addr×List Int)),v= .ref p/\H p=some (.tup [qv,.str (zD q),.ref hp,.ref rp])/\QAt H q qv/\
 H hp=some (.lst ((za th q).map V.str))/\RowsAt H rp rs/\rs.map (·.2)=rowsOf th tr q
theorem kE.same{H H':Hp}{v:V}{q:Qn}(h:kE th tr H v q)(e:zz H H'):kE th tr H' v q:=by
 obtain⟨p,qv,hp,rp,rs,rfl,h1,h2,c,b,a⟩:=h;exact⟨p,qv,hp,rp,rs,rfl,e _ _ h1,h2.same e,e _ _ c,b.same e,a⟩
end Qs

namespace L2
open PySem PySem.Spec PyProof.Rows
variable{P:Program}{w:World}{x:Str}{fd:FuncData}{sp:Sp}
section
variable{K:W.Frag}{mg:Str->Option Value}{base:Heap}
theorem Fun.okC{qual:Str}{st:Stmt}{f:Addr}{N ps:List Str}{k:Nat}(F:Fun K x qual st f fd)(S:FnScope N ps (zm st))(len:∀vs H Q E,sp vs H Q E->vs.length=ps.length)
  (a:∀(A:Around) (outer:List Env) (s:Shared) (H:Hp) (vs:List V) (Q:VK) (E:XK),Room k (A.deeper (envOfC qual (zm st) s.heap.objs.size f fd.code))->sp vs H Q E->
   ∃t,PSs (z3k CX0 P w K mg base N qual (zm st) f fd.code A outer s H E).nox (yq st) t/\t {nx:=λ_ H'=>Q .non H',rt:=Q} (start N vs) H):FnOk P w K mg base CX0 (k + 1) f fd ps sp:=by
 obtain⟨oc,od,kV,aS,pm,an,ad,ct,cB,rfl,b,c⟩:=F.ex;refine zd7 b c S len λA outer s H vs Q E hr d=> ?_
 obtain⟨t,h,q⟩:=a A outer s H vs Q E hr d;exact⟨t,h.nox,q⟩
end
def z95(H:Hp)(T:Addr)(lp:Pos)(q:Str)(c:Addr):Prop:=
 H T=some (.tbl #[rawInt lp.line,rawInt lp.col,.ref c])/\∃oc vs t,H c=some (.frz oc (.own 0))/\oc.data= .fields vs/\vs[1]? =some (.str q t)
def z1P(H:Hp)(T:Addr)(lp:Pos)(q:Str):Prop:=H T=some (.tbl #[])\/∃c,z95 H T lp q c
variable{H:Hp}{T:Addr}{lp:Pos}{q:Str}
theorem z1P.ne{a:Addr}{u:HO}(h:z1P H T lp q)(e:H a=some u)(b:∀ps,u≠ .tbl ps):a≠T:=by
 rintro rfl;rcases h with h | ⟨c,h,_⟩
 ·rw [h]at e;cases e;exact b _ rfl
 ·rw [h]at e;cases e;exact b _ rfl
theorem z1P.same{H':Hp}(h:z1P H T lp q)(k:zz H H'):z1P H' T lp q:=by
 rcases h with h | ⟨c,h,oc,vs,t,h2,a⟩
 ·exact .inl (k _ _ h)
 ·exact .inr ⟨c,k _ _ h,oc,vs,t,k _ _ h2,a⟩
section
variable{X:Cx}{pins:List (Addr×Obj)}{σ:St}{s:Shared}{A:Around}{E:Value->Shared->Prop}
noncomputable abbrev z4O(X:Cx)(params:Arguments)(body:Expr)(scope:Scope)(pm:Value)(c:Addr)(ct:Value):Obj:=
 PySem.W.kla_obj "<lambda>" (X.env.qual ++ "<lambda>") params body scope (z03 X.env scope.names []) pm c ct
theorem zaW{c:Addr}{params:Arguments}{body:Expr}{scope:Scope}{Q:Value->Shared->Prop}(I:Inv X pins σ H s)(hc:X.env.code= .ref c)(C:PySem.W.CodeHd X.base c T)(B:X.base.BuiltinsAt X.mg T)
  (hL:z1P H T lp (X.env.qual ++ "<lambda>")) (fR:defaultsOf params X.env=([],[])) (clo:∀y∈scope.names,y.2= .free->X.env.kindOf y.1=some .cell\/X.env.kindOf y.1=some .free)
  (h:∀f c' ct pm H' s',Kp T H H'->z95 H' T lp (X.env.qual ++ "<lambda>") c'->Inv X (pins ++ [(f,z4O X params body scope pm c' ct)]) σ H' s'->Q (.ref f) s'):
  wpAny (model X.prog X.w) A (eval (.Lambda params body scope lp) X.env) Q E s:=by
 have N:∀y∈scope.names,y.2= .free->∃c,X.env.cells.lookup y.1=some c:=λy S G=>I.ok.has y.1 (clo y S G)
 have O:s.heap.Ns mainGlobals X.mg:=by
  obtain⟨o,es,ep,e,r⟩:=I.mod.glob;exact⟨o,es,ep,I.bk _ _ e,r⟩
 have M:s.heap.BuiltinsAt X.mg T:=by
  obtain⟨bm,o,b1,b2,b3,b4,b5,Y⟩:=B;exact⟨bm,o,b1,b2,b3,b4,I.bk _ _ b5,Y⟩
 refine PySem.W.kla_eval fR ?_;rcases hL with a | ⟨c',a,oc,vs,t,h2,h3,h4⟩
 ·have D:s.heap.get? T=some (PySem.W.tabObj #[]):=I.hok T _ a;have vK:mainGlobals≠T:=λz=>by
   obtain⟨o,es,ep,e,r⟩:=I.mod.glob;have:=(I.bs _ _ e).2;rw [z,a]at this;cases this
  refine PySem.W.kla_makeFunction (ps:= #[]) (z02 N) I.ok.glob O hc (C.keeps I.bk) D trivial rfl vK M λc' ct h' tk hx j K Z F=> ?_
  obtain⟨c2,oc,vs,t,e2,J,hd,hv⟩:=Z;cases e2;have nc:H c'=none:=I.hok.fresh j;have P:c'≠T:=λz=>by rw [z,a]at nc;cases nc
  have L:h'.get? T=some (PySem.W.tabObj #[rawInt lp.line,rawInt lp.col,.ref c']):=by simpa using F
  have ne:∀b u,H b=some u->b≠c':=λb u e=>zy e nc
  have up:∀b o,b≠T->s.heap.get? b=some o->(h'.push (z4O X params body scope ((X.mg "__name__").getD .none) c' ct)).get? b=some o:=λb o n e=>wo _ (hx b o n e)
  have i:∀b,b≠T->b≠c'->upd (upd H c' (.frz oc (.own 0))) T (.tbl #[rawInt lp.line,rawInt lp.col,.ref c']) b=H b:=λb R n2=>by rw [zn R,zn n2]
  have l:∀b u,H b=some u->(∀ps,u≠ .tbl ps)->b≠T:=λb u e hu z=>by rw [z,a]at e;cases e;exact hu _ rfl
  have x:Inv X pins σ (upd (upd H c' (.frz oc (.own 0))) T (.tbl #[rawInt lp.line,rawInt lp.col,.ref c'])) {s with heap:=h'.push (z4O X params body scope ((X.mg "__name__").getD .none) c' ct),toks:=tk}:=by
   refine I.un ⟨λb o e n _ _=>up b o (λz=>by rw [z,a]at n;cases n) e,λb o e n _ _=>⟨o.slots,up b o (λz=>by rw [z,a]at n;cases n) e⟩,λb o e n _=> ?_,λb o e _=> ?_,λb xs e=> ?_,λb o u e=> ?_,λb ps e=> ?_⟩ λb u e=> ?_
   ·rw [i b (λz=>by rw [z,a]at n;cases n) (qe (wZ (wN e) j))];exact n
   ·by_cases hb:b=T
    ·exact⟨_,wo _ (hb ▸ L)⟩
    ·exact⟨o,up b o hb e⟩
   ·rw [i b (l b _ e λps z=>by cases z) (ne b _ e)];exact e
   ·rw [i b (l b _ e λps z=>by cases z) (ne b _ e)];exact e
   ·by_cases hb:b=T
    ·rw [hb,a]at e;cases e;rw [hb];exact⟨#[rawInt lp.line,rawInt lp.col,.ref c'],by rw [zl];simp⟩
    ·exact⟨#[],by rw [i b hb (ne b _ e),e];simp⟩
   ·by_cases hb:b=T
    ·rw [hb]at e ⊢;rw [zl]at e;cases e;exact wo _ L
    ·by_cases eM:b=c'
     ·rw [eM]at e ⊢;rw [zn P,zl]at e;cases e;exact⟨wo _ J,oc,wo _ J⟩
     ·rw [i b hb eM]at e;refine(I.hok b u e).stay (λd v hd q=>up d v ?_ q) (λd q=> ?_) λd xs q=> ?_
      ·rcases hd with hd | hd
       ·rw [hd];exact hb
       ·exact l d _ hd λps z=>by cases z
      ·rw [i d (l d _ q λps z=>by cases z) (ne d _ q)];exact q
      ·rw [i d (l d _ q λps z=>by cases z) (ne d _ q)];exact q
  have hsz:s.heap.objs.size<=h'.objs.size:=w1E (Nat.lt_of_le_of_lt j K);have U:T < s.heap.objs.size:=wN D;refine h h'.objs.size c' ct ((X.mg "__name__").getD .none) _ _ (λb o n e=>by rw [i b n (ne b _ e)];exact e) ⟨zl,oc,vs,t,by rw [zn P,zl],hd,hv⟩ (x.pins_of λp hp=> ?_);rcases wA.mp hp with hp | hp
  ·exact x.pin p (wG _ hp)
  ·rw [wz.mp hp];refine⟨qi _ rfl,?_,QN (wZ I.lt hsz),I.nofs hsz,λv z=>by cases z⟩
   show upd (upd H c' (.frz oc (.own 0))) T (.tbl #[rawInt lp.line,rawInt lp.col,.ref c']) h'.objs.size=none
   rw [i _ (QN (wZ U hsz)) (QN K)];exact I.hok.fresh hsz
 ·have D:s.heap.get? T=some (PySem.W.tabObj #[rawInt lp.line,rawInt lp.col,.ref c']):=I.hok T _ a;refine PySem.W.kla_makeFunctionHit (ps:= #[rawInt lp.line,rawInt lp.col,.ref c']) (cv:= .ref c') (z02 N) I.ok.glob O hc (C.keeps I.bk) D (by simp [TriplesOk,rawInt]) (by simp [codeAmong,rawInt]) M λct h' tk G hsz=> ?_
  have x:Inv X pins σ H {s with heap:=h'.push (z4O X params body scope ((X.mg "__name__").getD .none) c' ct),toks:=tk}:=I.kept λb o e=>wo _ (G b o e)
  refine h h'.objs.size c' ct ((X.mg "__name__").getD .none) H _ Kp.refl ⟨a,oc,vs,t,h2,h3,h4⟩ (x.pins_of λp hp=> ?_);rcases wA.mp hp with hp | hp
  ·exact x.pin p (wG _ hp)
  ·rw [wz.mp hp];exact⟨qi _ rfl,I.hok.fresh hsz,QN (wZ I.lt hsz),I.nofs hsz,λv z=>by cases z⟩
end
noncomputable def codeTabIn(K:W.Frag)(T:Addr):Bool:=K.any λp=>PySem.W.codeHdIn K p.1 T
noncomputable def codeOf(K:W.Frag)(cd:Value)(T:Addr):Bool:=match cd with
 | .ref c=>PySem.W.codeHdIn K c T
 | _=>false
variable{K:W.Frag}
theorem codeOf_ex{cd:Value}(h:codeOf K cd T=true):∃c,cd= .ref c/\PySem.W.codeHdIn K c T=true:=by
 unfold codeOf at h;split at h
 ·exact⟨_,rfl,h⟩
 ·cases h
theorem z7z{h:Heap}(X:K.In h)(e:codeTabIn K T=true):∃c,PySem.W.CodeHd h c T:=by
 obtain⟨p,_,hp⟩:=w1b.mp e;exact⟨p.1,PySem.W.codeHd_of_K X hp⟩
variable{Ts:List Addr}
theorem z9f{mg mb:Str->Option Value}{CX:CXT}{k:Nat}{E a:Addr}{c:Shared}{vs:List Value}{ns:List Int}
  (N:K.In c.heap) (C:c.heap.Ns mainGlobals mg) (f:c.heap.Ns builtinsNs mb) (X:∀x:Str,x≠"__name__"->mb x=bootBuiltins x) (S:c.heap.NoLimit) (hg:c.gens= #[])
  (R:∃l i,mg "__builtins__"=some (.ref l)/\l≠builtinsNs/\c.heap.get? l=some i/\i.cls= .type "module"/\i.dict=some builtinsNs/\i.data= .plain)
  (p:∀T∈Ts,c.heap.get? T=some (PySem.W.tabObj #[])) (ii:∀T∈Ts,isCodeTable c.heap T) (U:∀T∈Ts,K.lookup T=none)
  (ha:c.heap.get? a=some {cls:= .type "list",data:= .seq vs.toArray}) (hi:IntsAre vs ns) (hl:ns.length<=sizeLine) (hr:Room k callerA)
  (F:∀base:Heap,K.In base->base.Ns mainGlobals mg->(∀T∈Ts,base.BuiltinsAt mg T)->FnOk P w K mg base CX k E fd [x] sp) (bW:∀(s:Shared) (u:Value),BindsTo s fd ⟨[u],[]⟩ [(x,u)])
  (aq:∀H:Hp,SqL K H a (ns.map V.int)->(∀T∈Ts,H T=some (.tbl #[]))->sp [.ref a] H (λv _=>v= .bl true) λ_ _ _=>False)
  (vN:∀H e s',CX [] H c (λ_ _ _=>False) e s'->False):
  codeAny (model P w) callerA (.call (.ref E) ⟨[.ref a],[]⟩) (λr s'=>r= .ok (.ret (.bool true))/\OldK c.heap s'.heap/\s'.os=c.os/\AllBare s'.gens) c:=by
 have L:=z5I hi;have nX:=hi.length;have aT:a∉Ts:=λz=>by
  have:=p a z;rw [ha]at this;cases this
 have core:∀H:Hp,(∀b,H b=none\/(b∈Ts/\H b=some (.tbl #[]))\/(b=a/\K.lookup a=none/\H b=some (.frz {cls:= .type "list",data:= .seq vs.toArray} (.lst (ns.map V.int)))))->SqL K H a (ns.map V.int)->(∀T∈Ts,H T=some (.tbl #[]))->
   codeAny (model P w) callerA (.call (.ref E) ⟨[.ref a],[]⟩) (λr s'=>r= .ok (.ret (.bool true))/\OldK c.heap s'.heap/\s'.os=c.os/\AllBare s'.gens) c:=by
  intro H y Y vO;have hok:HOk P w H c.heap:=λb u e=>by
   rcases y b with z | ⟨m,z⟩ | ⟨rfl,_,z⟩
   ·rw [z]at e;cases e
   ·rw [z]at e;cases e;exact p b m
   ·rw [z]at e;cases e;exact⟨ha,by rw [w9];exact hl,vs,_,L,ha⟩
  have B:∀{b:Addr} {o:Obj},c.heap.get? b=some o->H b=none->(z4T c.heap H).get? b=some o:=λe n=>za2 e n
  have M:∀{b:Addr} {o:Obj},c.heap.get? b=some o->(∀xs n,o.data≠ .seq xs n)->(∀xs,o.data≠ .fields xs)->H b=none:=λ{b o} e d1 d2=>by
   rcases y b with z | ⟨m,_⟩ | ⟨rfl,_,_⟩
   ·exact z
   ·have:=p b m;rw [e]at this;cases this;exact absurd rfl (d2 _)
   ·rw [ha]at e;cases e;exact absurd rfl (d1 _ _)
  have eI:∀{b:Addr} {o:Obj} {es:Array DictEntry} {ep:Nat},c.heap.get? b=some o->o.data= .dict es ep->H b=none:=λ{b o es ep} e d=>M e (λxs n z=>by rw [d]at z;cases z) λxs z=>by rw [d]at z;cases z
  have A:∀{b:Addr} {m:Str->Option Value},c.heap.Ns b m->(z4T c.heap H).Ns b m:=λ{b m} ⟨o,es,ep,e,d,r⟩=>⟨o,es,ep,B e (eI e d),d,r⟩
  have I:K.In (z4T c.heap H):=λb o e=>B (N b o e) (by
   rcases y b with z | ⟨m,_⟩ | ⟨rfl,z,_⟩
   ·exact z
   ·rw [U b m]at e;cases e
   ·rw [z]at e;cases e)
  have Q:Mod K mg (z4T c.heap H):=⟨I,A C,⟨mb,A f,X⟩,let ⟨mc,h1,h2⟩:=S;⟨mc,A h1,h2⟩⟩;have Z:∀T∈Ts,(z4T c.heap H).BuiltinsAt mg T:=λT m=>by
   obtain⟨l,i,b1,b2,t,b4,b5,j⟩:=R;refine⟨l,i,b1,b2,λz=> ?_,λz=> ?_,B t (M t (λxs n q=>by rw [j]at q;cases q) λxs q=>by rw [j]at q;cases q),b4,b5,j⟩
   ·obtain⟨o,es,ep,e,d,_⟩:=C;rw [z,e]at t;cases t;rw [j]at d;cases d
   ·have:=p T m;rw [<-z,t]at this;cases this;cases j
  have e0:Env0 P w K mg (z4T c.heap H) callerA [] c H:=⟨rfl,Q,λb o e=>zcz e,Nat.le_of_eq (z9l _ _),trivial,λb f=>absurd (show b∈([]:List Addr)from f) (by simp),hok,.of_eq hg⟩;refine w0u ((F _ I (A C) Z).run callerA [] c H ⟨[.ref a],[]⟩ [.ref a] [.ref a] _ _ hr e0 (bW c (.ref a)) (.cons rfl .nil) (aq H Y vO)) λr s' h=> ?_
  cases r with
  | error e=>exact(vN H e s' h).elim
  | ok fl=>
   cases fl with
   | next=>exact False.elim h
   | brk=>exact False.elim h
   | cont=>exact False.elim h
   | ret u=>
    obtain⟨v,H',os,bare,un,O,r',q⟩:=h;have q':v= .bl true:=q;subst q';obtain rfl:u=Value.bool true:=r';have at':∀b o,c.heap.get? b=some o->s'.heap.get? b=some o\/(b∈Ts/\o=PySem.W.tabObj #[]/\∃more,s'.heap.get? b=some (PySem.W.tabObj more)):=λb o e=>by
     rcases y b with z | ⟨m,z⟩ | ⟨rfl,_,z⟩
     ·exact .inl (un.keep b o e z (by intro z;exact absurd (show b∈([]:List Addr)from z) (by simp)) (by simp))
     ·obtain⟨more,G⟩:=un.tbls b _ z;have D:s'.heap.get? b=some (PySem.W.tabObj (#[] ++ more)):=O b _ G;have J:=p b m;rw [e]at J;exact .inr ⟨m,Option.some.inj J,_,D⟩
     ·have G:=un.frzs b _ _ z;obtain⟨D,_⟩:=O b _ G;rw [ha]at e;cases e;exact .inl D
    refine⟨rfl,⟨λb o e=> ?_,λb o e=> ?_⟩,os,bare⟩
    ·rcases at' b o e with z | ⟨m,rfl,more,z⟩
     ·exact .inl z
     ·exact .inr (.inl ⟨ii b m,rfl,#[],more,rfl,by rw [Array.empty_append];exact z⟩)
    ·rcases at' b o e with z | ⟨m,rfl,more,z⟩
     ·exact⟨_,z⟩
     ·exact⟨_,z⟩
 cases hk:K.lookup a with
 | some o=>
  have e:=N a o hk;rw [ha]at e;cases e;refine core (λb=>if b∈Ts then some (.tbl #[])else none) (λb=> ?_) (.inr ⟨_,vs.toArray,_,hk,rfl,rfl,rfl,by rw [wB,nX];exact hl,by simpa using L⟩) λT m=>wY m
  by_cases m:b∈Ts
  ·exact .inr (.inl ⟨m,wY m⟩)
  ·exact .inl (wU m)
 | none=>
  refine core (λb=>if b∈Ts then some (.tbl #[])else if b=a then some (.frz {cls:= .type "list",data:= .seq vs.toArray} (.lst (ns.map V.int)))else none) (λb=> ?_) (.inl (.inr ⟨{cls:= .type "list",data:= .seq vs.toArray},(wU aT).trans (wY rfl)⟩)) λT m=>wY m
  by_cases m:b∈Ts
  ·exact .inr (.inl ⟨m,wY m⟩)
  ·by_cases f:b=a
   ·exact .inr (.inr ⟨f,hk,(wU m).trans (wY f)⟩)
   ·exact .inl ((wU m).trans (wU f))
theorem walk_ofT{l:PySem.W.OpenLaw}{n k:Nat}{q:Program}{loose:List Str}{M:(Str->Option Value)->Heap->Prop}{r:World->Heap->Prop}{d:DefRec}{K:Params->W.Frag}{sp:World->Sp}
  (hn:l.most=some n) (B:n<=sizeLine) (L:d.params.defaults= []) (hr:Room k callerA)
  (O:∀(w:World) (h:Heap),r w h->(K w.params).In h/\∀T∈Ts,h.get? T=some (PySem.W.tabObj #[]))
  (y:∀(w:World),∀T∈Ts,codeTabIn (K w.params) T=true) (t:∀(w:World),∀T∈Ts,(K w.params).lookup T=none)
  (F:∀(w:World) (mg:Str->Option Value) (j:Addr) (h:Heap),(K w.params).In h->h.Ns mainGlobals mg->mg d.name=some (.ref j)->
   ∃fd:FuncData,(∀(s:Shared) (u:Value),BindsTo s fd ⟨[u],[]⟩ [(x,u)])/\
    ∀base:Heap,(K w.params).In base->base.Ns mainGlobals mg->(∀T∈Ts,base.BuiltinsAt mg T)->FnOk l.prog w (K w.params) mg base CX0 k j fd [x] (sp w))
  (E:∀(w:World) (H:Hp) (a:Addr) (ns:List Int),ns.length<=n->SqL (K w.params) H a (ns.map V.int)->(∀T∈Ts,H T=some (.tbl #[]))->sp w [.ref a] H (λv _=>v= .bl true) λ_ _ _=>False):
  PySem.W.WalkO q loose M r l.row.toRowW d [] (λf vs=>PySem.call f vs):=by
 refine Att.attach_call hn L λw s₀ R mg mb j o pm cd aS a vs ns G Y S hd Q D N hints hlen I=> ?_
 obtain⟨p,i⟩:=O w _ Y;obtain⟨fd,A,P⟩:=F w mg j _ p G.T.g D;exact z9f p G.T.g G.T.b G.T.builtins G.T.nolimit I G.T.bmain i (λT m=>by
  obtain⟨c,C⟩:=z7z p (y w T m);exact(C.tab (i T m)).isCodeTable) (t w) N hints (wW hlen B) hr P A (λH J i=>E w H a ns hlen J i) λH e s' z=>z
end L2

namespace L2
open PySem PySem.Spec PyProof.Rows
theorem z6t:∀{xs:List V} {us:List Value},zQ xs us->zQ xs.reverse us.reverse
 | _,_,.nil=> .nil
 | _,_,.cons r t=>by rw [QT,QT];exact(z6t t).append (.cons r .nil)
variable{l:Addr}{items:Array Value}
section
variable{prog:Program}{w:World}{A:Around}{E:Value->Shared->Prop}{s:Shared}{r:Addr}
theorem z5M:typeLookup (.type "list_reverseiterator") "__len__"=pure none:=by rw [typeLookup_type,builtinLookup_eq_fast];kernel_rfl
theorem z59:typeLookup (.type "list_reverseiterator") "__length_hint__"=pure (some (.builtin "list_reverseiterator.__length_hint__")):=by rw [typeLookup_type,builtinLookup_eq_fast];kernel_rfl
theorem zaY{Q:Bool->Shared->Prop}(c:s.TypeIs (.ref r) "list_reverseiterator")(h:Q false s):wpAny (model prog w) A (Builtin.List.listLengthHint (.ref r)) Q E s:=by
 unfold Builtin.List.listLengthHint;refine wC (wpAny_specialOf c z5M ?_)
 wp_delta
 refine w1t (λa=>absurd a (by decide)) (λ_=> ?_);refine wC (wpAny_specialOf c z59 ?_);generalize hid:("list_reverseiterator.__length_hint__":String)=id0
 wp_delta
 rw [show splitId id0=some ("list_reverseiterator","__length_hint__")from by subst hid;decide +kernel];subst hid;refine wC (wpAny_isInstance (T:="list_reverseiterator") (b:=true) c (by rw [isSubtype_type];kernel_rfl) ?_);refine w1t (λa=>absurd a (by decide)) (λ_=> ?_);refine w1t (λ_=> ?_) (λa=>absurd (by decide +kernel) a);refine w1t (λa=>absurd a (by decide +kernel)) (λ_=> ?_);exact qd h
theorem z7B{R:Result->Shared->Prop}(G:A.handled=none)(c:s.heap.IsRevIter r l ((items.size:Int) - 1))(hl:s.heap.IsList l items)(E:l≠r)(S:Addr)(y:S≠r)(M:S≠l)(res:Value)(q:Nat)(j:s.heap.get? S=some {cls:= .type "list",data:= .seq #[] q})
  (O:∀h' tk d c',(∀b o,b≠S->b≠r->s.heap.get? b=some o->h'.get? b=some o)->h'.get? S=some {cls:= .type "list",dict:=none,data:= .seq d c',slots:= #[]}->ItemsOf (λi v=>items[items.size - 1 - i]? =some v) d items.size->R (.ok (.ret res)) {s with heap:=h',toks:=tk}) (hn:items.size<=sizeLine):
  wpAny (model prog w) A.in1 (Builtin.List.listExtendWith (.ref S) (.ref r) res)
   (λfin s'=>match fin with | .done f=>R (.ok f) s' | .again c'=>c'.quiet=true/\codeAny (model prog w) A c' R s') (λe s'=>R (.error e) s') s:=by
 have t:S∉ [r,l]:=by simp only [wH,qz,QD,not_or];exact⟨y,M⟩
 have W:=Walks.listRev (prog:=prog) (w:=w) (A:=A.in1) G r l E items;unfold Builtin.List.listExtendWith;refine wC (wpAny_typeOf (T:="list_reverseiterator") c.typeIs ?_);have h1:Builtin.List.listSameRef (.ref S) (.ref r)=false:=by simp [Builtin.List.listSameRef,y]
 have z:(Value.type "list_reverseiterator" == Value.type "list")=false:=by decide
 have L:(Value.type "list_reverseiterator" == Value.type "tuple")=false:=by decide
 simp only [h1,z,L,Bool.or_false,Bool.false_eq_true,w0B];have N:(items.size:Int) - 1 - ((0:Nat):Int)=(items.size:Int) - 1:=by lia
 have st:0<=items.size/\s.heap.IsRevIter r l ((items.size:Int) - 1 - ((0:Nat):Int))/\s.heap.IsList l items:=⟨Q6 _,by rw [N];exact c,hl⟩;have key:∀(h:Heap) (n tk:Nat),(0<=items.size/\h.IsRevIter r l ((items.size:Int) - 1 - ((0:Nat):Int))/\h.IsList l items)->(∀b o,b≠S->s.heap.get? b=some o->h.get? b=some o)->
   h.get? S=some {cls:= .type "list",data:= .seq #[] n}->codeAny (model prog w) A (.builtin "list.extend.loop" ⟨[.ref S,.ref r,res],[]⟩) R {s with heap:=h,toks:=tk}:=by
  intro h n tk C J H;refine codeAny_extend_loopS W.toS hn S t res items.size 0 _ #[] n rfl (Q6 _) C H (ItemsOf.nil _) λs' d c' hm I K=> ?_
  rw [Moved.eq_with hm];refine O s'.heap s'.toks d c' (λb o a p e=>hm.heap b o (λaO=> ?_) (J b o a e)) I K;rcases wH.mp aO with D | aO
  ·exact a D
  ·exact p (wz.mp aO)
 refine wC (wpAny_pyIter_revIter c ?_);refine wC (QV (zaY c.typeIs ?_));refine w1t (λ_=> ?_) (λ_=>qd ⟨plainId_quiet PySem.F.plain_extend_loop _,key _ q _ st (λb o _ e=>e) j⟩);refine wC (wpAny_rule ?_);refine wC ?_
 show wpAny _ _ (updateSeq S (·.push .none) >>= λ_=>updateSeq S (·.pop)) _ _ _
 refine wC (wpAny_updateSeq j rfl ?_);have u:=w0X (Obj.mapSeq (·.push Value.none)) j rfl;refine wpAny_updateSeq (hz:=by seq_fits) u rfl ?_;have B:=w0X (Obj.mapSeq (·.pop)) u rfl;refine qd ⟨plainId_quiet PySem.F.plain_extend_loop _,key _ _ _ ?_ (λb o a e=> ?_) B⟩
 ·refine W.frame 0 _ _ st λb a o e=> ?_
  have x:b≠S:=λh=>t (h ▸ a)
  exact(Q9 _ _ (w1p x)).trans ((Q9 _ _ (w1p x)).trans e)
 ·exact(Q9 _ _ (w1p a)).trans ((Q9 _ _ (w1p a)).trans e)
theorem zb2{Q:Value->Shared->Prop}(x:A.handled=none)(h:s.heap.IsRevIter r l ((items.size:Int) - 1))(hl:s.heap.IsList l items)(u:l≠r)(hn:items.size<=sizeLine)
  (y:∀h' tk c c',(∀b o,b≠r->s.heap.get? b=some o->h'.get? b=some o)->h'.get? s.heap.objs.size=some {cls:= .type "list",dict:=none,data:= .seq c c',slots:= #[]}->ItemsOf (λi v=>items[items.size - 1 - i]? =some v) c items.size->Q (.ref s.heap.objs.size) {s with heap:=h',toks:=tk}):
  wpAny (model prog w) A (call (.type "list") [.ref r]) Q E s:=by
 refine callType_codes (Q₁:=λobj n=>obj= .ref s.heap.objs.size/\n={s with heap:=s.heap.push {cls:= .type "list",data:= .seq #[]}}) PySem.F.called_list (PySem.F.typeCall_list_1 _) PySem.F.entry_list_init
  (code_list_new _ ⟨rfl,rfl⟩) λobj n t=> ?_
 obtain⟨rfl,rfl⟩:=t;have a:(s.heap.push {cls:= .type "list",data:= .seq #[]}).get? s.heap.objs.size=some {cls:= .type "list",data:= .seq #[]}:=qi _ rfl;have p:r < s.heap.objs.size:=let ⟨o,ho,_⟩:=h;wN ho
 have j:l < s.heap.objs.size:=let ⟨o,ho,_⟩:=hl;wN ho
 refine⟨⟨_,a,rfl⟩,PySem.F.args_list_init_2 _ _,?_⟩
 show wpAny _ _ (do let G<-Builtin.List.listItems (.ref s.heap.objs.size);Builtin.List.listUpdate (.ref s.heap.objs.size) (λ_=> #[]);letGo G.toList.reverse;Builtin.List.listExtendWith (.ref s.heap.objs.size) (.ref r) .none) _ _ _
 refine wC ?_;unfold Builtin.List.listItems;refine wC (wpAny_seqItems a rfl (qd ?_))
 show wpAny _ _ (updateSeq s.heap.objs.size (λ_=> #[]) >>= λ_=>letGo (#[]:Array Value).toList.reverse >>= λ_=>Builtin.List.listExtendWith (.ref s.heap.objs.size) (.ref r) .none) _ _ _
 refine wC (wpAny_updateSeq a rfl ?_);have B:=w0X (Obj.mapSeq (λ_=>(#[]:Array Value))) a rfl;have d:∀b o,b≠s.heap.objs.size->s.heap.get? b=some o->((s.heap.push {cls:= .type "list",data:= .seq #[]}).update s.heap.objs.size (Obj.mapSeq (λ_=>(#[]:Array Value)))).get? b=some o:=
  λb o q e=>(Q9 _ _ (w1p q)).trans (wo _ e)
 refine wC (wpAny_letGo ?_);refine z7B (A:=A.in1) x (h.at λo e=>d r o (qe p) e) (hl.at λo e=>d l o (qe j) e) u _ (QN p) (QN j) .none _ B (λh' tk c c' C z D=> ?_) hn;exact⟨rfl,y h' tk c c' (λb o f e=>C b o (qe (wN e)) f (d b o (qe (wN e)) e)) z D⟩
end
section
variable{X:Cx}{e:Expr}{te:TE}{p p' pos pos':Pos}
def zaE(K:W.Frag)(te:TE):TE:=λσ H Q=>te σ H λx H1=>∃l xs,x= .ref l/\SqL K H1 l xs/\∀r,H1 r=none->Q (.ref r) (upd H1 r (.lst xs.reverse))
theorem z7U(r:X.calm=true)(z:Gl X "list")(B:X.mg "list"=none)(G:Gl X "reversed")(C:X.mg "reversed"=none)(F:PE X e te)
  (hs:starEach [.Call (.Name "reversed" p') [e] [] pos'] X.env= [(false,eval (.Call (.Name "reversed" p') [e] [] pos') X.env)]:=by rfl) (d:starEach [e] X.env= [(false,eval e X.env)]:=by rfl):
  PE X (.Call (.Name "list" p) [.Call (.Name "reversed" p') [e] [] pos'] [] pos) (zaE X.K te):=by
 intro pins s σ H Q I h;refine Qx (z1l I z B qR ?_ (by decide) (by decide));refine Qb (by
  rw [hs];refine w01 ?_;refine Qx (z1l I G C PyProof.Rows.boot_reversed ?_ (by decide) (by decide));refine Qb (by
   rw [d];refine w01 (thn (F pins s σ H _ I h) ?_);rintro u s1 ⟨x,H1,c,r1,l,xs,ex,hq,q⟩;refine w14 ?_;subst ex;cases r1;obtain⟨its,n,pl,hz⟩:=c.list hq;have hlen:=n.length;refine call_reversed_list pl.isList ?_;refine w14 ?_;have t:l≠s1.heap.objs.size:=by
    obtain⟨o,y,_⟩:=pl.isList;exact qe (wN y)
   have E:(s1.heap.push (revObj l ((its.toArray.size:Int) - 1))).IsList l its.toArray:=pl.isList.at λo e=>wo _ e
   refine zb2 (s:={s1 with heap:=s1.heap.push (revObj l ((its.toArray.size:Int) - 1))}) (c.ok.hd r) ⟨_,qi _ rfl,rfl,rfl⟩ E t (by rw [wB];lia) λh' tk a c' A w D=> ?_
   have hsz:(s1.heap.push (revObj l ((its.toArray.size:Int) - 1))).objs.size=s1.heap.objs.size + 1:=Qq ..;have kp:∀b o,s1.heap.get? b=some o->h'.get? b=some o:=λb o e=>A b o (qe (wN e)) (wo _ e)
   have M:a.toList=its.reverse:=by
    obtain⟨i,J⟩:=D;refine List.ext_getElem? λj=> ?_
    by_cases hj:j < its.length
    ·have f:j < a.size:=by rw [i,wB];exact hj
     have:=J j a[j] (Array.getElem?_eq_getElem f);rw [Array.getElem?_toList,Array.getElem?_eq_getElem f,List.getElem?_reverse hj,<-this];simp
    ·rw [List.getElem?_eq_none (by rw [w0K,i,wB];lia),List.getElem?_eq_none (by rw [w0n];lia)]
   have L:zQ xs.reverse a.toList:=by rw [M];exact z6t n
   refine⟨.ref _,upd H1 _ (.lst xs.reverse),c.laid (t':=tk) kp (by rw [hsz];exact Nat.le_succ _) ⟨by rw [w0n];exact hz,a.toList,c',L,?_⟩,rfl,q _ (c.hok.fresh (by rw [hsz];exact Nat.le_succ _))⟩;rw [w,Array.toArray_toList]) (by rw [d];rfl) (by rw [show starEach ([]:List Expr) X.env= []from rfl];rfl)) (by rw [hs];rfl) (by rw [show starEach ([]:List Expr) X.env= []from rfl];rfl)
end
end L2

namespace L2
open PySem PySem.Spec PyProof.Rows
variable{t':Nat}{ch:List Addr}
section
variable{X:Cx}{pins:List (Addr×Obj)}{σ:St}{H:Hp}{s:Shared}{h':Heap}
theorem Inv.turnedL(I:Inv X pins σ H s)(k:∀b o,b∉ch->s.heap.get? b=some o->h'.get? b=some o)(a:∀b∈ch,z3O X pins H b):Inv X pins σ H {s with heap:=h',toks:=t'}:=by
 have d:∀b u,H b=some u->b∉ch:=λb u e z=>by rw [(a b z).1]at e;cases e
 refine I.step (g':=s.gens) (d':=s.drawn) (ch:=ch) (λb f=> ?_) (λb o _ _ hc e _=>k b o hc e) (λb o _ _ hc e _=>⟨o.slots,k b o hc e⟩) (λ_ _ _ _ n=>n)
  (λb o hc e=>⟨o,k b o hc e⟩) (λ_ _ e=>e) (λ_ _ _ e=>e) (λb ps e=>⟨#[],by rw [e];simp⟩) (λm hm=> ?_) (λb u e=> ?_) I.bare
 ·obtain⟨_,f1,_,i,h,j⟩:=a b f;exact⟨i,f1,h,j⟩
 ·obtain⟨o,es,ep,l,r⟩:=hm;exact⟨o,es,ep,k _ o (λz=>(a _ z).2.1 rfl) l,r⟩
 ·refine(I.hok b u e).stay (λc v hc q=>k c v ?_ q) (λ_ q=>q) λ_ _ q=>q
  rcases hc with z | z
  ·rw [z];exact d b u e
  ·exact d c _ z
theorem Inv.turnedLaid{a:Addr}{o:HO}(I:Inv X pins σ H s)(k:∀b o,b∉ch->s.heap.get? b=some o->h'.get? b=some o)(f:∀b∈ch,z3O X pins H b)(hp:s.heap.objs.size<=a)
  (new:jm X.prog X.w (upd H a o) h' a o):Inv X pins σ (upd H a o) {s with heap:=h',toks:=t'}:=by
 have h:∀b u,H b=some u->b∉ch:=λb u e z=>by rw [(f b z).1]at e;cases e
 have hn:H a=none:=I.hok.fresh hp;refine I.step (g':=s.gens) (d':=s.drawn) (ch:=ch) (λb d=> ?_) (λb o _ _ hc e _=>k b o hc e) (λb o _ _ hc e _=>⟨o.slots,k b o hc e⟩) (λb u _ q n=>by rw [zn (qe (wZ (wN q) hp))];exact n)
  (λb o hc e=>⟨o,k b o hc e⟩) (λb xs e=>by rw [zn (zy e hn)];exact e) (λb _ _ e=>by rw [zn (zy e hn)];exact e) (λb ps e=>⟨#[],by rw [zn (zy e hn),e];simp⟩) (λm hm=> ?_) (λb u e=> ?_) I.bare
 ·obtain⟨_,f1,_,j,i,l⟩:=f b d;exact⟨j,f1,i,l⟩
 ·obtain⟨o,es,ep,p,r⟩:=hm;exact⟨o,es,ep,k _ o (λz=>(f _ z).2.1 rfl) p,r⟩
 ·by_cases d:b=a
  ·subst d;rw [zl]at e;cases e;exact new
  ·rw [zn d]at e;refine(I.hok b u e).stay (λc v hc q=>k c v ?_ q) (λc q=> ?_) λc xs q=> ?_
   ·rcases hc with z | z
    ·rw [z];exact h b u e
    ·exact h c _ z
   ·rw [zn (zy q hn)];exact q
   ·rw [zn (zy q hn)];exact q
end
end L2

namespace L2
open PySem
def zfD(σ:St):Prop:=∃o1 o2,σ= [o1,o2]
theorem ze9{X:Cx}{scope:Scope}{x y:Str}{fr:List Str}{ix:List Nat}{px py tp:Pos}{k:Nat}(hc:X.calm=true)(S:CompScG X scope [x,y] fr ix)(c:scope.names.lookup x=some .local)(b:scope.names.lookup y=some .local)(C:Addr)(cells:List (Str×Addr))(s₀:Shared)(H₀:Hp)(ex:List Addr)(pins:List (Addr×Obj)):
  PG (j7 X scope ([x,y] ++ fr) C cells s₀ H₀ ex pins) (.Tuple [.Name x px,.Name y py] k tp) (zdP X.K 2 (z6x (z1Z 0) (z6x (z1Z 1) zdt))):=by
 have a:(j7 X scope ([x,y] ++ fr) C cells s₀ H₀ ex pins).env.scope.names.lookup x=some .local:=ym (env:=X.env) c;have ly:(j7 X scope ([x,y] ++ fr) C cells s₀ H₀ ex pins).env.scope.names.lookup y=some .local:=ym (env:=X.env) b;exact zas (X:=j7 X scope ([x,y] ++ fr) C cells s₀ H₀ ex pins) hc (z2V (z0I (i:=0) S.nd rfl (.inl a) (.inr a)) (z2V (z0I (i:=1) S.nd rfl (.inl ly) (.inr ly)) z8e))
end L2

namespace L2
open PySem PySem.Spec PyProof.Rows
structure ExcCls(K:W.Frag)(D:Addr):Prop where
 ga:PySem.W.findIn K (.ref D) "__getattribute__"=some (some (.builtin "BaseException.__getattribute__"))
 gt:PySem.W.findIn K (.ref D) "__getattr__"=some none
 be:PySem.W.subIn K (.ref D) (.type "BaseException")=some true
 hc:(PySem.W.clsIn K D).isSome=true
 ha:PySem.W.findIn K (.ref D) "__class__"=some (some (.builtin "object.__class__"))
 hn:PySem.W.specialIn K (.builtin "object.__class__") "__get__"=some (some (.builtin "getset_descriptor.__get__"))
 ht:PySem.W.takesIn K (.builtin "object.__class__")=some true
 hm:PySem.W.mroIn K D (.type "object")=some true
section
variable{X:Cx}
theorem ze4{pins:List (Addr×Obj)}{s:Shared}{σ:St}{H:Hp}{i:Nat}{x:Str}{v:V}{pos:Pos}{Q:Value->Shared->Prop}(I:Inv X pins σ H s)(d:X.N[i]? =some x)(b:Vis X.env.scope x)(e:σ[i]? =some (some v))(h:∀u,RelV v u->Q u s)
  (hd:(x == ("__debug__":Str))=false:=by decide) (a:(x == ("__classdict__":Str))=false:=by decide):wpAny (model X.prog X.w) X.A (eval (.Name x pos) X.env) Q X.xe s:=by
 obtain⟨m,hn,hl⟩:=I.loc;obtain⟨u,r,l⟩:=hl i x v d e b;have fin:=h u r;rcases l with⟨hk,hm⟩ | ⟨hk,c,hc,aG⟩
 ·exact wpAny_Name (wpAny_loadName_local I.ok.kind hk hn hm fin) hd
 ·rcases hk with hk | hk
  ·exact wpAny_Name (wpAny_loadName_cell I.ok.kind hk hc aG fin) hd
  ·exact wpAny_Name (wpAny_loadName_free I.ok.kind hk hc aG fin a) hd
end
end L2

namespace L2
open PySem PySem.Spec PyProof.Rows
abbrev SpS:=List Env->Shared->Sp
structure FnOkS(P:Program)(w:World)(K:W.Frag)(mg:Str->Option Value)(base:Heap)(CX:CXT)(k:Nat)(f:Addr)(fd:FuncData)(ps:List Str)(sp:SpS):Prop where
 len:∀outer s vs H Q E,sp outer s vs H Q E->vs.length=ps.length
 run:∀(A:Around) (outer:List Env) (s:Shared) (H:Hp) (args:Args) (us:List Value) (vs:List V) (Q:VK) (E:XK),Room k A->Env0 P w K mg base A outer s H->BindsTo s fd args (ps.zip us)->zQ vs us->sp outer s vs H Q E->
  codeAny (model P w) A (.call (.ref f) args) (CR CX outer P w H s Q E) s
variable{P:Program}{w:World}{mg:Str->Option Value}{base:Heap}{CX:CXT}{f:Addr}{sp:SpS}
section
variable{K:W.Frag}
theorem Fun.okS{x qual:Str}{st:Stmt}{fd:FuncData}{N ps:List Str}{k:Nat}(F:Fun K x qual st f fd)(S:FnScope N ps (zm st))(len:∀outer s vs H Q E,sp outer s vs H Q E->vs.length=ps.length)
  (j:∀(ad:Value) (A:Around) (outer:List Env) (s:Shared) (H:Hp) (vs:List V) (Q:VK) (E:XK),Room k (A.deeper (envOfC qual (zm st) s.heap.objs.size f ad))->sp outer s vs H Q E->
   ∃t,PSs (z3k CX P w K mg base N qual (zm st) f ad A outer s H E) (yq st) t/\t {nx:=λ_ H'=>Q .non H',rt:=Q} (start N vs) H):FnOkS P w K mg base CX (k + 1) f fd ps sp:=by
 obtain⟨oc,od,kV,aS,pm,an,ad,ct,cB,rfl,l,p⟩:=F.ex;refine⟨len,λA outer s H args us vs Q E hr a i r d=> ?_⟩;have hl:=len _ _ _ _ _ _ d;have h:K.In s.heap:=a.mod.kin.keeps λb o e=>(a.bs b o e).1
 have G:s.heap.NoLimit:=a.mod.nolimit.keeps λb o e=>(a.bs b o e).1
 have B:∀y∈ps.zip us,(zm st).names.lookup y.1=some .local\/((zm st).names.lookup y.1=some .cell/\((cellsFrom (s.heap.objs.size + 1) (zm st).names []).lookup y.1).isSome=true):=λ⟨n,v⟩ z=>by
  rcases S.par n (List.of_mem_zip z).1 with q | q
  ·exact .inl q
  ·exact .inr ⟨q,PySem.W.cellsFrom_some _ _ _ (.inl q)⟩
 refine codeAny_call_function hr.depth (h _ _ l) rfl S.co S.gen rfl (PySem.W.codeRec_of h p) (i _ _ _ _ ?_);refine wpAny_newFunctionEnv_cells S.kind B λenv D s1 x=> ?_
 subst D;refine⟨G.keeps x.toInCall.keep,codeAny_func ?_⟩;obtain⟨t,ht,hq⟩:=j ad A outer s H vs Q E (hr.deeper _) d;have I:Inv (z3k CX P w K mg base N qual (zm st) f ad A outer s H E) [] (start N vs) H s1:=z5F S hr.hd a hl r x;refine QR (ht [] s1 (start N vs) H _ I hq) (λC s' hs=> ?_) λe s' hs=>hs
 have fin:∀{σ':St} {H':Hp} {v:V} {u:Value},Inv (z3k CX P w K mg base N qual (zm st) f ad A outer s H E) [] σ' H' s'->RelV v u->Q v H'->CE outer P w H s Q u s':=
  λ{σ' H' v u} J c q=>⟨v,H',J.os,J.bare,J.base,J.hok,c,q⟩
 cases C with
 | ret u=>obtain⟨v,σ',H',J,c,q⟩:=hs;exact fin J c q
 | next=>obtain⟨σ',H',J,q⟩:=hs;exact fin (v:=V.non) (u:=Value.none) J rfl q
 | brk=>obtain⟨_,_,_,q⟩:=hs;exact False.elim q
 | cont=>obtain⟨_,_,_,q⟩:=hs;exact False.elim q
end
structure KnS(P:Program)(w:World)(K:W.Frag)(mg:Str->Option Value)(base:Heap)(CX:CXT)(k:Nat)(x:Str)(ps:List Str)(sp:SpS):Prop where
 ex:∃(f:Addr) (fd:FuncData),FnOkS P w K mg base CX k f fd ps sp/\mg x=some (.ref f)/\PySem.W.keepIn K (.ref f)=true/\Binds K fd ps []
structure WorkOk(P:Program)(w:World)(K:W.Frag)(mg:Str->Option Value)(base:Heap)(CX:CXT)(k:Nat)(fs:List Addr)(H:Hp)(s:Shared)(lf:Addr)(sp:Sp):Prop where
 here:∀(s':Shared) (H':Hp),Un fs [] H H' s.heap s'.heap->PySem.W.FnAt lf s'.heap
 run:∀(A:Around) (outer:List Env) (s':Shared) (H':Hp) (us:List Value) (vs:List V) (Q:VK) (E:XK),Room k A->Env0 P w K mg base A outer s' H'->Un fs [] H H' s.heap s'.heap->zQ vs us->sp vs H' Q E->
  codeAny (model P w) A (.call (.ref lf) ⟨us,[]⟩) (CR CX outer P w H' s' Q E) s'
noncomputable abbrev cxW(CX:CXT)(P:Program)(w:World)(K:W.Frag)(mg:Str->Option Value)(base:Heap)(A:Around)(outer:List Env)(qual:Str)(scope:Scope)(N:List Str)(f:Addr)(cd:Value)(cells:List (Str×Addr))(s:Shared)(H:Hp)(E:XK):Cx:=
 {prog:=P,w:=w,K:=K,mg:=mg,base:=base,A:=A.deeper (PySem.W.envX qual scope s.heap.objs.size f cd cells),N:=N,s₀:=s,H₀:=H,env:=PySem.W.envX qual scope s.heap.objs.size f cd cells,outer:=outer,
  stack:=PySem.W.envX qual scope s.heap.objs.size f cd cells :: outer,ex:= [],fn:=λ_=>false,calm:=true,pn:= [],
  xe:=λe s'=>wpAny (model P w) (A.deeper (PySem.W.envX qual scope s.heap.objs.size f cd cells)) (leaving (PySem.W.envX qual scope s.heap.objs.size f cd cells) e) (λ_ a=>CX outer H s E e a) (λb a=>CX outer H s E b a) s'}
structure LamSc(scope:Scope)(a b y:Str):Prop where
 kind:scope.kind= .function
 co:scope.isCoroutine=false
 gen:scope.isGenerator=false
 la:scope.names.lookup a=some .local
 lb:scope.names.lookup b=some .local
 ly:scope.names.lookup y=some .free
 nd: [a,b,y].Nodup
 nc:∀z∈scope.names,z.2≠ .cell
 only:∀z∈scope.names,z.2= .free->z.1=y
variable{scope:Scope}{s:Shared}{H:Hp}{E:XK}
theorem zb6{K:W.Frag}{A:Around}{outer:List Env}{qual:Str}{a b y:Str}{j:Addr}{cd:Value}{h1:Heap}{tk:Nat}{v1 v2 tv:V}{r t B:Value}
  (S:LamSc scope a b y) (G:A.handled=none) (l:Env0 P w K mg base A outer s H) (r1:RelV v1 r) (r2:RelV v2 t) (J:RelV tv B) (hc:s.heap.IsCell j (some B)) (D:H j=none)
  (I:h1.Ns s.heap.objs.size (λz=> [(a,r),(b,t)].reverse.lookup z)) (u:∀b o,s.heap.get? b=some o->h1.get? b=some o):
  Inv (cxW CX P w K mg base A outer qual scope [a,b,y] f cd [(y,j)] s H E) [] [some v1,some v2,some tv] H {s with heap:=h1,toks:=tk}:=by
 have F:a≠b:=by have:=S.nd;simp at this;exact this.1.1
 have look:∀z c,([(y,j)]:List (Str×Addr)).lookup z=some c->z=y/\c=j:=λz c e=>by
  rw [qJ]at e;split at e
  ·rename_i q;exact⟨eq_of_beq q,(Option.some.inj e).symm⟩
  ·cases e
 have C:∀d:Addr,d∉(cxW CX P w K mg base A outer qual scope [a,b,y] f cd [(y,j)] s H E).ex:=λd z=>absurd (show d∈([]:List Addr)from z) (by simp)
 refine⟨⟨l.mod,S.kind,rfl,rfl,wu _,λx z c h1 h2=>(look x c h1).1.trans (look z c h2).1.symm,λx hx=> ?_,λx c z _=>absurd z wT,λ_=>G,Around.frames_deeper l.frames,.inr ⟨rfl,rfl⟩,λb z=>absurd z (C b),l.bs,l.bsz,λb _ _=>C b,λb z=>absurd z (C b),l.funs,l.frf⟩,
  rfl,l.bare,Un.kept u,⟨_,I,λi x v' h1 h2 L=> ?_⟩,λx c h=> ?_,l.hok.fresh (wu _),λx c h=> ?_,λp hp=>absurd (show p∈([]:List (Addr×Obj))from hp) (by simp),l.hok.kept u,rfl⟩
 ·have hx:scope.names.lookup x=some .cell\/scope.names.lookup x=some .free:=hx;rcases hx with hx | hx
  ·exact absurd rfl (S.nc _ (Qm hx))
  ·have:x=y:=S.only _ (Qm hx) rfl;subst this;exact⟨j,by show([(x,j)]:List (Str×Addr)).lookup x=some j;simp⟩
 ·match i,h1,h2 with
  | 0,h1,h2=>
   cases (show a=x from Option.some.inj h1);cases (show some v1=some v' from Option.some.inj h2);refine⟨r,r1,.inl ⟨S.la,?_⟩⟩
   show([(b,t),(a,r)]:List (Str×Value)).lookup a=some r
   rw [qJ,show(a == b)=false from by simpa using F];simp
  | 1,h1,h2=>
   cases (show b=x from Option.some.inj h1);cases (show some v2=some v' from Option.some.inj h2);refine⟨t,r2,.inl ⟨S.lb,?_⟩⟩
   show([(b,t),(a,r)]:List (Str×Value)).lookup b=some t
   simp
  | 2,h1,h2=>
   cases (show y=x from Option.some.inj h1);cases (show some tv=some v' from Option.some.inj h2);exact⟨B,J,.inr ⟨.inr S.ly,j,by show([(y,j)]:List (Str×Addr)).lookup y=some j;simp,hc.keeps u⟩⟩
  | n + 3,h1,_=>cases h1
 ·obtain⟨_,rfl⟩:=look x c h;exact⟨_,hc.keeps u⟩
 ·obtain⟨_,rfl⟩:=look x c h;exact D
section
variable{X:Cx}{pins:List (Addr×Obj)}{σ:St}{k:Nat}{T c:Addr}{lp:Pos}{params:Arguments}{body:Expr}{a b y:Str}{j:Nat}{tv:V}{tb:XK->TE}
theorem zaO{pm ct:Value}(I:Inv X (pins ++ [(f,z4O X params body scope pm c ct)]) σ H s)(iu:z95 H T lp (X.env.qual ++ "<lambda>") c)(S:LamSc scope a b y)(B:X.env.kindOf y=some .cell\/X.env.kindOf y=some .free)(hN:X.N[j]? =some y)(hσ:σ[j]? =some (some tv))
  (bG:z03 X.env scope.names []= [(y,(X.env.cells.lookup y).getD 0)])
  (bW:∀(pm ct l n:Value) (c:Addr),bindArgs (PySem.W.kla_fn "<lambda>" (X.env.qual ++ "<lambda>") params body scope (z03 X.env scope.names []) pm (.ref c) ct) ⟨[l,n],[]⟩=pure [(a,l),(b,n)])
  (U:∀A outer f cd d s H E,Room k (A.deeper (PySem.W.envX (X.env.qual ++ "<lambda>") scope s.heap.objs.size f cd [(y,d)]))->PE (cxW CX X.prog X.w X.K X.mg X.base A outer (X.env.qual ++ "<lambda>") scope [a,b,y] f cd [(y,d)] s H E) body (tb E)):
  WorkOk X.prog X.w X.K X.mg X.base CX (k + 1) (frs X.stack) H s f (λvs H Q E=>∃v1 v2,vs= [v1,v2]/\tb E [some v1,some v2,some tv] H Q):=by
 obtain⟨F,M,_⟩:=I.pin _ (wG _ (wG _ (wz.mpr rfl)));obtain⟨d,x⟩:=I.ok.has y B;obtain⟨m,hn,hl⟩:=I.loc;obtain⟨O,rt,lk⟩:=hl j y tv hN hσ (by
  rcases B with q | q
  ·exact .inr (.inl q)
  ·exact .inr (.inr q))
 have L:s.heap.IsCell d (some O):=by
  rcases lk with⟨q,_⟩ | ⟨_,c',e',z⟩
  ·rcases B with z | z
   ·rw [q]at z;cases z
   ·rw [q]at z;cases z
  ·rw [x]at e';cases e';exact z
 have G:H d=none:=I.freeC y d x;have nZ:z03 X.env scope.names []= [(y,d)]:=by rw [bG,x];rfl
 refine⟨λs' H' un=> ?_,λA outer s' H' us vs Q E hr p un r C=> ?_⟩
 ·obtain⟨sl,e⟩:=un.any F M (by simp);exact⟨_,_,_,_,e⟩
 ·obtain⟨v1,v2,rfl,C⟩:=C;obtain⟨l,n,rfl,r1,r2⟩:=vals2 r;obtain⟨sl,e⟩:=un.any F M (by simp);have Y:s'.heap.IsCell d (some O):=by
   obtain⟨o,u,hd⟩:=L;obtain⟨sl,e⟩:=un.any u G (by simp);exact⟨_,e,hd⟩
  have o0:H' d=none:=by
   obtain⟨o,u,_⟩:=L;exact un.free d o u G (by simp)
  have P:s'.heap.CodeRec (.ref c) (X.env.qual ++ "<lambda>"):=by
   obtain⟨_,oc,vs,t,h2,R,h4⟩:=iu;obtain⟨e,_⟩:=p.hok c _ (un.frzs _ _ _ h2);exact⟨c,oc,vs,t,rfl,e,R,h4⟩
  have hW:s'.heap.NoLimit:=p.mod.nolimit.keeps λb o e=>(p.bs b o e).1
  refine PySem.W.kla_callFunE hr.depth e rfl S.co S.gen rfl P ?_;have D:=bW pm ct l n c;dsimp only at D ⊢;rw [D];refine qd (wpAny_newFunctionEnv S.nc (λz hz=> ?_) (λh1 dI i=>⟨?_,?_⟩) S.kind)
  ·simp only [wH,qz,QD]at hz;rcases hz with rfl | rfl
   ·exact S.la
   ·exact S.lb
  ·exact hW.fresh _ i
  ·have hk:∀b o,s'.heap.get? b=some o->h1.get? b=some o:=λb o e=>i.extBut b o (qe (wN e)) (wo _ e)
   have Z:=zb6 (CX:=CX) (qual:=X.env.qual ++ "<lambda>") (f:=f) (cd:= .ref c) (E:=E) (tk:=s'.toks + 2) S hr.hd p r1 r2 rt Y o0 dI hk
   show codeAny _ _ (.expr body (PySem.W.envX (X.env.qual ++ "<lambda>") scope s'.heap.objs.size f (.ref c) (z03 X.env scope.names []))) _ _
   rw [nZ];refine PySem.W.kla_codeExpr (QR (U A outer f (.ref c) d s' H' E (hr.deeper _) [] _ _ H' Q Z C) (λw s2 hq=> ?_) λe s2 z=>z);obtain⟨v,H2,J,ry,q⟩:=hq;exact⟨v,H2,J.os,J.bare,J.base,J.hok,ry,q⟩
def zaM(X:Cx)(CX:CXT)(k:Nat)(T:Addr)(lp:Pos)(q:Str)(j:Nat)(tb:XK->TE)(sp:SpS)(E:XK)(te:TE):TE:=λσ H Q=>te σ H λv H1=>z1P H1 T lp q/\∃tv,σ[j]? =some (some tv)/\
 ∀(lf c:Addr) (H2:Hp) (s2:Shared),Kp T H1 H2->z95 H2 T lp q c->WorkOk X.prog X.w X.K X.mg X.base CX (k + 1) (frs X.stack) H2 s2 lf (λvs H Q E=>∃v1 v2,vs= [v1,v2]/\tb E [some v1,some v2,some tv] H Q)->sp X.stack s2 [v,.ref lf] H2 Q E
theorem z7u{D:Nat}{F:Str}{ps:List Str}{p pos:Pos}{e:Expr}{te:TE}(C:KnS X.prog X.w X.K X.mg X.base CX D F ps sp)(hx:z1g CX X E)(hr:Room D X.A)(hg:Gl X F)(he:PE X e te)(hc:X.env.code= .ref c)(hC:PySem.W.CodeHd X.base c T)(B:X.base.BuiltinsAt X.mg T)
  (S:LamSc scope a b y) (L:X.env.kindOf y=some .cell\/X.env.kindOf y=some .free) (hN:X.N[j]? =some y)
  (Z:∀A outer f cd O s H E,Room k (A.deeper (PySem.W.envX (X.env.qual ++ "<lambda>") scope s.heap.objs.size f cd [(y,O)]))->PE (cxW CX X.prog X.w X.K X.mg X.base A outer (X.env.qual ++ "<lambda>") scope [a,b,y] f cd [(y,O)] s H E) body (tb E))
  (bG:z03 X.env scope.names []= [(y,(X.env.cells.lookup y).getD 0)]:=by rfl)
  (bW:∀(pm ct x G:Value) (c:Addr),bindArgs (PySem.W.kla_fn "<lambda>" (X.env.qual ++ "<lambda>") params body scope (z03 X.env scope.names []) pm (.ref c) ct) ⟨[x,G],[]⟩=pure [(a,x),(b,G)]:=by intro _ _ _ _ _;rfl)
  (fR:defaultsOf params X.env=([],[]):=by rfl) (bR:(F == ("__debug__":Str))=false:=by decide)
  (o:starEach [e,.Lambda params body scope lp] X.env=(false,eval e X.env) :: starEach [.Lambda params body scope lp] X.env:=by rfl) (oa:starEach [.Lambda params body scope lp] X.env= [(false,eval (.Lambda params body scope lp) X.env)]:=by rfl) (R:(backTo pos (starEach [.Lambda params body scope lp] X.env)).any (·.1)=false:=by rfl):
  PE X (.Call (.Name F p) [e,.Lambda params body scope lp] [] pos) (zaM X CX k T lp (X.env.qual ++ "<lambda>") j tb sp E te):=by
 obtain⟨f0,fd,l,hm,hk,mC⟩:=C.ex;intro pins s σ H Q I h;refine Qx (z37 I hg hm ?_ bR);refine w0T (h₀:=X.base) I.ok.mod.kin hk ?_ o R;rw [o,oa]
 show wpAny _ _ (spliced [(false,eval e X.env),(false,eval (.Lambda params body scope lp) X.env)]) _ _ s
 refine w01 (thn (he pins s σ H _ I h) ?_);rintro u s1 ⟨v,H1,I1,r1,hL,tv,hσ,q⟩;refine w01 ?_;refine zaW I1 hc hC B hL fR (λz hz i=>by rw [S.only z hz i];exact L) λf c' ct pm H2 s2 P t d=>w14 ⟨d.kIn,?_⟩
 have W:=zaO (CX:=CX) (k:=k) d t S L hN hσ bG bW Z;have M:=q f c' H2 s2 P t W;have hl:=l.len _ _ _ _ _ _ M;have U:zQ [v,.ref f] [u,.ref f]:= .cons r1 (.cons rfl .nil);have aD:([u,Value.ref f] ++ ([]:List Value)).length=ps.length:=hl;have n:=mC s2 [u,.ref f] d.kIn aD;rw [Q3]at n;refine w1J (w0u (l.run X.A X.stack s2 H2 ⟨[u,.ref f],[]⟩ [u,.ref f] [v,.ref f] Q E hr d.env0 n U M) λr s' hq=> ?_);cases r with
 | error e=>exact hx _ σ H2 s2 e s' d hq
 | ok fl=>
  cases fl with
  | ret u=>
   obtain⟨v',H',J,Y,q'⟩:=d.after hq;exact⟨v',H',J.pins_of λp hp=>J.pin p (wG _ (qc _ hp)),Y,q'⟩
  | next=>exact False.elim hq
  | brk=>exact False.elim hq
  | cont=>exact False.elim hq
end
end L2

namespace L2
open PySem PySem.Spec PyProof.Rows
noncomputable def once(ks:List Str):List Str:=ks.foldl (λa k=>if k∈a then a else a ++ [k]) []
theorem z27(ks:List Str)(k:Str):once (ks ++ [k])=if k∈once ks then once ks else once ks ++ [k]:=by
 unfold once;rw [List.foldl_append]
 rfl
theorem snoc_ind{α:Type}{P:List α->Prop}(h0:P [])(h1:∀l a,P l->P (l ++ [a]))(l:List α):P l:=by
 have:∀l:List α,P l.reverse:=λl=>by
  induction l with
  | nil=>exact h0
  | cons a r b=>rw [QT];exact h1 _ _ b
 have:=this l.reverse
 rwa [List.reverse_reverse]at this
theorem z35{k:Str}(ks:List Str):k∈once ks↔k∈ks:=by
 refine snoc_ind (P:=λks=>k∈once ks↔k∈ks) (by unfold once;simp) (λl a b=> ?_) ks;rw [z27];split
 ·rename_i h;rw [wA,b];refine⟨.inl,λz=>z.elim id λz=> ?_⟩;rw [wz.mp z]at b ⊢;exact b.mp h
 ·rw [wA,wA,b]
theorem z8X(ks:List Str):(once ks).length<=ks.length:=by
 refine snoc_ind (P:=λks=>(once ks).length<=ks.length) (by unfold once;simp) (λl a b=> ?_) ks;rw [z27];split <;> simp only [wg,wJ] <;> lia
theorem z7J(ks:List Str):(once ks).length=ks.length↔ks.Nodup:=by
 refine snoc_ind (P:=λks=>(once ks).length=ks.length↔ks.Nodup) (by unfold once;simp) (λl a b=> ?_) ks;have f:=z8X l;rw [z27];split
 ·rename_i h;rw [z35]at h;refine⟨λz=> ?_,λz=> ?_⟩
  ·rw [wg,wJ]at z;lia
  ·exact absurd rfl ((QS.mp z).2.2 a h a (wz.mpr rfl))
 ·rename_i h;rw [z35]at h;rw [wg,wg];refine⟨λz=> ?_,λz=> ?_⟩
  ·have:=b.mp (by simpa using z);exact QS.mpr ⟨this,by simp,λx c y d e=>h (by rw [wz.mp d]at e;rw [<-e];exact c)⟩
  ·rw [b.mpr (QS.mp z).1]
variable{ks:List Str}
section
variable{prog:Program}{w:World}{A:Around}
noncomputable abbrev tk(prog:Program)(w:World):=PySem.strKind prog w
theorem zaK{R:Result->Shared->Prop}{I:Addr}{fp a:List Addr}{G:Array GenState->Array GenState->Prop}{n:Nat}{r:Nat->Value->Prop}{St:Nat->Shared->Prop}(W:WalksS prog w A.in1 I fp a G n r St){S:Addr}(p:S∉fp)(hn:ks.length=n)
  (C:∀i v,r i v->∃t,v= .str (ks.getD i "") t) (M:n + 1 < scanBound):∀(k i:Nat) (s:Shared),n - i=k->i<=n->St i s->s.heap.SetOf (tk prog w) S (λx=>decide (x∈ks.take i)) (once (ks.take i)).length->
   (∀s',Moved (S :: a) G s s'->s'.heap.SetOf (tk prog w) S (λx=>decide (x∈ks)) (once ks).length->R (.ok (.ret .none)) s')->codeAny (model prog w) A (.builtin "set.update.loop" ⟨[.ref S,.ref I],[]⟩) R s:=by
 have sub:∀b∈a,b∈S :: a:=λb z=> .tail _ z
 have L:S∉a:=λz=>p (W.sub _ z)
 have y:∀{s s':Shared} {g:Str->Bool} {m:Nat},Moved a G s s'->s.heap.SetOf (tk prog w) S g m->s'.heap.SetOf (tk prog w) S g m:=λhm ⟨o,es,ep,t,J,z⟩=>⟨o,es,ep,t,hm.heap S _ L J,z⟩
 intro k;induction k with
 | zero=>
  intro i s K hi st d fin;obtain rfl:i=n:=by lia
  rw [Qy (by lia)]at d;refine codeAny_builtin PyProof.Rows.F.entry_set_update_loop (by
   rw [Around.under_plainId w0f _];exact wC (W.done s _ _ st λs' hm=>qd (fin s' (hm.mono sub) (y hm d))))
 | succ k B=>
  intro i s K hi st d fin;have j:i < ks.length:=by lia
  refine codeAny_builtin PyProof.Rows.F.entry_set_update_loop (by
   rw [Around.under_plainId w0f _];refine wC (W.item i s _ _ (by lia) st λv s' hp H hm=> ?_);obtain⟨t,rfl⟩:=C i v hp;have E:=y hm d;have room:(once (ks.take i)).length + 1 < scanBound:=by
    have h1:=z8X (ks.take i);rw [wX]at h1
    lia
   have u:ks.getD i ""=ks[i]:=by rw [ww,we j];rfl
   have l:ks.take (i + 1)=ks.take i ++ [ks[i]]:=by rw [q5,we j];rfl
   refine wC (QV (QV (wC ((tk prog w).pyHash (k:=ks[i]) (v:= .str (ks.getD i "") t) ?_ ?_))))
   ·rw [u];exact strKind_is _ _ _ _
   refine wpAny_setAddHashed_of (knd:=tk prog w) (k:=ks[i]) ?_ rfl E room λh' c f=> ?_
   ·rw [u];exact strKind_is _ _ _ _
   have D:h'.SetOf (tk prog w) S (λx=>decide (x∈ks.take (i + 1))) (once (ks.take (i + 1))).length:=by
    refine PyProof.Rows.SetOf_congr f (λx=> ?_) ?_
    ·show(decide (x∈ks.take i) || decide (x=ks[i]))=_
     rw [l,<-Bool.decide_or];exact w1c.mpr (by rw [wA,wz])
    ·rw [l,z27];by_cases hm:ks[i]∈ks.take i
     ·rw [wY (by simpa using hm),wY ((z35 _).mpr hm)]
     ·rw [wU (by simpa using hm),wU (λz=>hm ((z35 _).mp z)),wg];rfl
   refine qd ⟨plainId_quiet w0f _,B (i + 1) _ (by lia) (by lia) (W.frame _ s' _ _ H (Nat.le_succ _) λb z o e=> ?_) D λs2 h=> ?_⟩
   ·rw [c.2 b λq=>p (q ▸ z)];exact e
   ·refine fin s2 (Moved.trans W.gtrans ((hm.mono sub).then_heap (Nat.le_succ _) λb o z e=> ?_) h);rw [c.2 b λq=>z (q ▸ .head _)];exact e)
noncomputable abbrev newSet(a:Bool):Obj:={cls:= .type "set",dict:=none,data:= .set #[] 0 (.fresh 0 0 a)}
set_option maxHeartbeats 3200000 in
theorem z99{E:Value->Shared->Prop}{s:Shared}{l:Addr}{items:List Value}{Q:Value->Shared->Prop}(N:A.handled=none)(hl:s.heap.IsList l items.toArray)(hi:zQ (ks.map V.str) items)(f:ks.length + 1 < scanBound)
  (h:∀(h':Heap) (j:Nat),h'.SetOf (tk prog w) s.heap.objs.size (λx=>decide (x∈ks)) (once ks).length->(∀b o,b < s.heap.objs.size->s.heap.get? b=some o->h'.get? b=some o)->Q (.ref s.heap.objs.size) {s with heap:=h',toks:=j}):
  wpAny (model prog w) A (call (.type "set") [.ref l]) Q E s:=by
 have hlen:items.length=ks.length:=by rw [<-hi.length,w9]
 obtain⟨c,tl,U⟩:=w10.mro;have a1:=w10.made;have a2:=w10.sub;have a3:=w10.notType;have Y:=w10.canCreate;have a5:=F.typeCall_set_1 (.ref l);refine w1J (codeAny_of_tree (qd ⟨Code.quiet_builtin _ (by decide +kernel),codeAny_builtin F.entry_type_call ?_⟩));rw [Around.under_plain (weight_type_call_type "set" [.ref l] []) rfl]
 repeat (any_goals (first | assumption | wp_step))
 refine w0u (code_set_new_1 (.ref l) (E:=E) (Q₁:=λo s1=>∃a:Bool,o= .ref s.heap.objs.size/\s1={s with heap:=s.heap.push {cls:= .type "set",dict:=none,data:= .set #[] 0 (.fresh 0 0 a)}}) λa=>⟨a,rfl,rfl⟩) λr s1 hr=> ?_
 rcases r with e | (_ | _ | _ | o)
 ·exact hr
 ·exact hr
 ·exact hr
 ·exact hr
 ·obtain⟨a,rfl,rfl⟩:=hr;have J:(s.heap.push (newSet a)).get? s.heap.objs.size=some (newSet a):=qi _ rfl;have O:Shared.TypeIs {s with heap:=s.heap.push (newSet a)} (.ref s.heap.objs.size) "set":=⟨_,J,rfl⟩;have b1:=w10.init.lookup;have b2:=w10.init.bind (.ref s.heap.objs.size)
  repeat (any_goals (first | assumption | wp_step))
  refine w0u (codeAny_call_builtin (R:=wants (λr s2=>r= .none/\∃h' j,s2={s with heap:=h',toks:=j}/\h'.SetOf (tk prog w) s.heap.objs.size (λx=>decide (x∈ks)) (once ks).length/\∀b o,b < s.heap.objs.size->s.heap.get? b=some o->h'.get? b=some o) E)
   w10.init.plain F.entry_set_init (check_set_init_1 O ?_)) λr2 s2 d=> ?_
  ·obtain⟨⟨oc,od,X,os⟩,G,q,y,I⟩:=hl;simp only at q I;subst q I;have c1:(s.heap.push (newSet a)).get? l=some {cls:= .type "list",dict:=od,data:= .seq items.toArray y,slots:=os}:=wo _ G;have c2:=F.sub_list_set;have Z:=F.sub_list_frozenset;have T:(Value.type "list" == Value.type "dict")=false:=by decide
   have H:(s.heap.push (newSet a)).IsList l items.toArray:=⟨_,c1,rfl,y,rfl⟩;unfold Builtin.«set.__init__» noKeywords Builtin.Frozenset.updateFrom;generalize hPI:pyIter=PI
   wp_walk
   subst hPI;have d1:l < s.heap.objs.size:=wN G;have d2:A.in1.in1.in1.handled=none:=by simp [N]
   have p:(s.heap.push (newSet a)).objs.size=s.heap.objs.size + 1:=Qq _ _;refine wpAny_pyIter_list H (wC (wpAny_runValue ?_));refine zaK (ks:=ks) (S:=s.heap.objs.size) ((Walks.list d2 _ l (by rw [p];exact qe (Qd d1)) items.toArray).toS) (λz=>(wH.mp z).elim (λe=>absurd (e.trans p) (qe (w05 _))) λz=>absurd (wz.mp z) (QN d1)) (by simp [hlen]) (λi v z=> ?_) (by simp [hlen];exact f) _ 0 _ rfl (Q6 _) ⟨⟨_,qi _ rfl,rfl,rfl⟩,H.push _⟩ ?_ ?_
   ·have D:items[i]? =some v:=by simpa using z
    have B:i < ks.length:=by rw [<-hlen];exact(wk.mp D).1
    obtain⟨u,C,P⟩:=hi.get (show(ks.map V.str)[i]? =some (.str ks[i]) by rw [wQ,we B];rfl);rw [D]at C;cases C;obtain⟨t,rfl⟩:=P;exact⟨t,by rw [ww,we B];rfl⟩
   ·have M:=wo (h:=s.heap.push (newSet a)) {cls:= .type "list_iterator",data:= .fields #[.ref l,.int 0 0]} J;exact PyProof.Rows.SetOf_congr ((PyProof.Rows.setObjOf_fresh (knd:=tk prog w) a).setOf M (by unfold scanBound;lia)) (λ_=>by simp) (by unfold once;rfl)
   ·intro s' hm n;obtain⟨h',g',d',t',K⟩:=s';obtain rfl:g'=s.gens:=hm.gens;obtain rfl:d'=s.drawn:=hm.drawn;obtain rfl:K=s.os:=hm.os;refine qd (qd ⟨rfl,h',t',rfl,n,λb o f e=> ?_⟩);refine hm.heap b o ?_ (wo _ (wo _ e));exact λz=>(wH.mp z).elim (qe f) λz=>absurd ((wz.mp z).trans p) (qe (Qd f))
  ·rcases r2 with e | (_ | _ | _ | o)
   ·exact d
   ·exact d
   ·exact d
   ·exact d
   ·obtain⟨rfl,h',j,rfl,n,L⟩:=d
    repeat (any_goals (first | assumption | wp_step))
    exact h _ _ n L
end
end L2

namespace L2
open PySem PySem.Spec PyProof.Rows
def zdj(P:Program)(w:World)(a:Addr)(n:Nat)(h:Heap):Prop:=∃S,h.SetOf (tk P w) a S n
variable{X:Cx}{P:Program}{w:World}
theorem zbd{K:W.Frag}(x:X.prog=P)(d:X.w=w)(n:X.K=K)(hc:X.calm=true):kj X (.type "set") (λxs H Q=>∃l ks,xs= [.ref l]/\SqL K H l (ks.map V.str)/\ks.length<=1000/\∀a,H a=none->Q (.ref a) (upd H a (.ext (zdj P w a (once ks).length)))):=by
 subst x d n;intro pins s σ H xs us Q I r h;obtain⟨l,ks,rfl,hl,hn,q⟩:=h;obtain⟨u,rfl,i⟩:=r.one;cases (show u=Value.ref l from i);obtain⟨its,p,pl,hz⟩:=I.list hl;refine z99 (ks:=ks) (I.ok.hd hc) pl.isList p (by unfold scanBound;lia) λh' t' c j=> ?_
 have f:∀b o,s.heap.get? b=some o->h'.get? b=some o:=λb o e=>j b o (wN e) e
 refine⟨.ref _,_,I.laid f (wu _) ?_,rfl,q _ I.fresh⟩;refine⟨⟨_,c⟩,?_,λh1 h2 ⟨S,o,es,ep,t,e,z⟩ k=>⟨S,o,es,ep,t,k o e,z⟩⟩;obtain⟨o,es,ep,t,e,_⟩:=c;exact⟨o,e⟩
theorem z74(j:X.prog=P)(d:X.w=w):kj X (.builtin "len") (λxs H Q=>∃a n,xs= [.ref a]/\H a=some (.ext (zdj P w a n))/\Q (.int (n:Nat)) H):=by
 subst j d;intro pins s σ H xs us Q I r h;obtain⟨a,n,rfl,ha,q⟩:=h;obtain⟨u,rfl,i⟩:=r.one;cases (show u=Value.ref a from i);obtain⟨⟨S,o,es,ep,t,e,f,hd,_,_,b,c,hn⟩,_,_⟩:=(show jm X.prog X.w H s.heap a (.ext (zdj X.prog X.w a n))from I.hok a _ ha);refine call_len_set e f hd c (by unfold scanBound at b;lia) ?_;exact⟨.int n,H,I.tok _,⟨_,by rw [hn]⟩,q⟩
def zbP:V->List V->Hp->VK->Prop:=λx vs H Q=>∃l xs y,x= .ref l/\vs= [.int 0,y]/\H l=some (.lst xs)/\xs.length < sizeLine/\Q .non (upd H l (.lst (y :: xs)))
theorem z9K:MtM X "list.insert" zbP:=by
 intro pins s σ H x vs v us Q I c f h;obtain⟨l,xs,y,rfl,rfl,a,hz,q⟩:=h;cases c;obtain⟨i,u,rfl,r0,d⟩:=vals2 f;obtain⟨b,rfl⟩:=r0;obtain⟨z,its,n,r,hl,e⟩:=I.lstM a;refine call_meets F.slot_list_insert ⟨_,e,rfl⟩ F.entry_list_insert (F.args_list_insert_3 _ _ _) (PySem.AutoSeq1.list_insert_list_int_val_1 l its.toArray n 0 b u (by decide) (by rw [wB];lia)) ⟨e,?_⟩;refine⟨.non,_,I.lset (its':=u :: its) a e (by simp) (.cons d r) ?_,rfl,q⟩;rw [wP]
 lia
def zbR(K:W.Frag):R2:=λx y H Q=>∃a b xs ys,x= .ref a/\y= .ref b/\SqL K H a xs/\SqL K H b ys/\xs.all yY=true/\ys.all yY=true/\Q (.bl (!eqL xs ys)) H
theorem z9P{K:W.Frag}(D:X.K=K)(E:X.A.units + 1 < cLine):OpR X (compareOp .NotEq) (zbR K):=by
 subst D;intro pins s σ H x y v u Q I t o h;have f:X.A.units < cLine:=by lia
 obtain⟨a,b,xs,ys,rfl,rfl,ha,l,C,B,q⟩:=h;cases t;cases o;obtain⟨its,r,pl,hz⟩:=I.list ha;obtain⟨F,r2,i,_⟩:=I.list l;have l1:=r.length;have l2:=r2.length;by_cases hl:xs.length=ys.length
 ·refine SeqAt.RcNeAt.lists (e:=λj=>eqV (xs.getD j .non) (ys.getD j .non)) pl.isList i.isList (by rw [wB,wB];lia) f (λj h1 h2=> ?_) _ _ _ _ ⟨.bl (!eqL xs ys),H,I,?_,q⟩
  ·rw [wB]at h1;have c:xs[j]? =some xs[j]:=we (by lia);have d:ys[j]? =some ys[j]:=we (by lia);obtain⟨w1,w,n⟩:=r.get c;obtain⟨w2,p,z⟩:=r2.get d;rw [w17,w17,(wk.mp w).2,(wk.mp p).2,ww,ww,c,d];exact z7I n z (qQ.mp C _ (qA c)) (qQ.mp B _ (qA d))
  ·show Value.bool _=Value.bool _
   rw [eqL,wS hl,w15,wB,<-l1]
 ·refine SeqAt.RcNeAt.lists_lengths pl.isList i.isList ?_ f _ _ _ _ ⟨.bl (!eqL xs ys),H,I,?_,q⟩
  ·rw [wB,wB,bne_iff_ne,<-l1,<-l2];exact hl
  ·show Value.bool true=Value.bool _
   rw [eqL,wL hl,w1B];rfl
def zeN{tg e:Expr}{w1 w2:TI}(h1:PI X tg e w1)(h2:PI X tg e w2):PI X tg e (λσ H R=>w1 σ H R\/w2 σ H R):=λpins s σ H R I h=>h.elim (h1 pins s σ H R I) (h2 pins s σ H R I)
end L2

namespace L2
open PySem PySem.Spec PyProof.Rows
noncomputable def hid(H:Hp)(d:Addr):Hp:=λb=>if b=d then none else H b
variable{H:Hp}{d:Addr}
theorem jt{b:Addr}(h:b≠d):hid H d b=H b:=wU h
theorem yE:hid H d d=none:=wY rfl
theorem k5{o:HO}(h:H d=none):hid (upd H d o) d=H:=by
 funext b
 by_cases e:b=d
 ·subst e;rw [yE,h]
 ·rw [jt e,zn e]
theorem z1S{b:Addr}(h:H b=none):hid H d b=none:=by
 unfold hid;split
 ·rfl
 ·exact h
section
variable{X:Cx}{pins:List (Addr×Obj)}{σ:St}{H2:Hp}{s s':Shared}{xs:List V}
theorem Inv.hide(I:Inv X pins σ H s)(hd:H d=some (.lst xs)):Inv X pins σ (hid H d) s:=by
 have nd:∀{b:Addr} {o:HO},H b=some o->(∀ys,o≠ .lst ys)->hid H d b=some o:=λ{b o} e n=>by
  rw [jt (λz=>by rw [z,hd]at e;cases e;exact n _ rfl)];exact e
 refine⟨I.ok,I.os,I.bare,⟨I.base.keep,I.base.slot,λb o e n f=>z1S (I.base.free b o e n f),I.base.there,λb ys e=>nd (I.base.tups b ys e) (by intro _ z;cases z),λb o u e=>nd (I.base.frzs b o u e) (by intro _ z;cases z),λb ps e=> ?_⟩,
  I.loc,I.cell,z1S I.free,λx c e=>z1S (I.freeC x c e),λp hp=> ?_,λb u e=> ?_,I.len⟩
 ·obtain⟨more,z⟩:=I.base.tbls b ps e;exact⟨more,nd z (by intro _ z;cases z)⟩
 ·obtain⟨a1,a2,a⟩:=I.pin p hp;exact⟨a1,z1S a2,a⟩
 ·have nb:b≠d:=λz=>by rw [z,yE]at e;cases e
  rw [jt nb]at e;exact(I.hok b u e).stay (λc v _ q=>q) (λc q=>nd q (by intro _ z;cases z)) λc ys q=>nd q (by intro _ z;cases z)
theorem Inv.readopt(J:Inv X pins σ H2 s')(I:Inv X pins σ H s)(hd:H d=some (.lst xs))(h2:H2 d=none)(new:jm X.prog X.w (upd H2 d (.lst xs)) s'.heap d (.lst xs)):Inv X pins σ (upd H2 d (.lst xs)) s':=by
 have ne:∀{b:Addr},H b=none->b≠d:=λ{b} e z=>by rw [z,hd]at e;cases e
 have a:∀{b:Addr} {o:HO},H2 b=some o->upd H2 d (.lst xs) b=some o:=λ{b o} e=>by rw [zn (λz=>by rw [z,h2]at e;cases e)];exact e
 refine⟨J.ok,J.os,J.bare,⟨J.base.keep,J.base.slot,λb o e n f=> ?_,J.base.there,λb ys e=>a (J.base.tups b ys e),λb o u e=>a (J.base.frzs b o u e),λb ps e=> ?_⟩,
  J.loc,J.cell,?_,λx c e=> ?_,λp hp=> ?_,λb u e=> ?_,J.len⟩
 ·rw [zn (ne (I.base.free b o e n f))];exact J.base.free b o e n f
 ·obtain⟨more,z⟩:=J.base.tbls b ps e;exact⟨more,a z⟩
 ·rw [zn (ne I.free)];exact J.free
 ·rw [zn (ne (I.freeC x c e))];exact J.freeC x c e
 ·obtain⟨a1,a2,h⟩:=J.pin p hp;exact⟨a1,by rw [zn (ne (I.pin p hp).2.1)];exact a2,h⟩
 ·by_cases hb:b=d
  ·subst hb;rw [zl]at e;cases e;exact new
  ·rw [zn hb]at e;exact(J.hok b u e).stay (λc v _ q=>q) (λc q=>a q) λc ys q=>a q
def zco(i:Nat)(lf:Addr)(sp:Sp)(E:XK)(t:TA):TE:=λσ H Q=>σ[i]? =some (some (.ref lf))/\t σ H λvs H1=>∃d xs,H1 d=some (.lst xs)/\sp vs (hid H1 d) (λv H2=>H2 d=none->Q v (upd H2 d (.lst xs))) E
theorem z9H{CX:CXT}{k i:Nat}{lf:Addr}{sp:Sp}{E:XK}{x:Str}{p pos:Pos}{e:Expr}{es:List Expr}{t:TA}(W:WorkOk X.prog X.w X.K X.mg X.base CX k X.fs X.H₀ X.s₀ lf sp)(hx:z1g CX X E)(M:X.ex= [])(hr:Room k X.A)(P:X.N[i]? =some x)(G:Vis X.env.scope x)(ha:PA X (e :: es) t)
  (hd:(x == ("__debug__":Str))=false:=by decide) (L:(x == ("__classdict__":Str))=false:=by decide) (he:starEach (e :: es) X.env=(false,eval e X.env) :: starEach es X.env:=by rfl) (S:(backTo pos (starEach es X.env)).any (·.1)=false:=by rfl):
  PE X (.Call (.Name x p) (e :: es) [] pos) (zco i lf sp E t):=by
 intro pins s σ H Q I h;obtain⟨h1,h⟩:=h;refine Qx (ze4 I P G h1 (λu R=> ?_) hd L);cases (show u=Value.ref lf from R);have un:∀{H1:Hp} {s1:Shared},Inv X pins σ H1 s1->Un X.fs [] X.H₀ H1 X.s₀.heap s1.heap:=λ{H1 s1} J=>by
  have:=J.base;rw [M]at this;exact this
 refine PySem.W.callWith_F (W.here s H (un I)) (thn (ha pos pins s σ H _ I h) ?_) he S;rintro us s1 ⟨vs,H1,a,r,d,xs,c,q⟩;refine⟨W.here s1 H1 (un a),?_⟩;have f:=a.hide c;have same:∀s':Shared,(∀b o,s1.heap.get? b=some o->hid H1 d b=none->b∉frs X.stack->s'.heap.get? b=some o)->∀B:Hp,jm X.prog X.w B s'.heap d (.lst xs):=λs' kp B=>by
  obtain⟨C,its,n,D,j⟩:=(show jm X.prog X.w H1 s1.heap d (.lst xs)from a.hok d _ c);exact⟨C,its,n,D,kp d _ j yE λz=>by have:=a.stkFree d z;rw [c]at this;cases this⟩
 refine w1J (w0u (W.run X.A X.stack s1 (hid H1 d) us vs _ E hr f.env0 (un f) r q) λr s' hq=> ?_);cases r with
 | error e=>exact hx pins σ _ s1 e s' f hq
 | ok Z=>
  cases Z with
  | ret u=>
   obtain⟨v,H2,c1,c2,l,U,rv,F⟩:=hq;obtain⟨v',y,O,dJ,T,Y⟩:=f.after (Q:=λv' H'=>v'=v/\H'=H2) ⟨v,H2,c1,c2,l,U,rv,rfl,rfl⟩;subst T Y;have h2:y d=none:=by
    obtain⟨C,its,n,D,j⟩:=(show jm X.prog X.w H1 s1.heap d (.lst xs)from a.hok d _ c);exact l.free d _ j yE (by simp)
   exact⟨v',_,O.readopt a c h2 (same s' (λb o e n nf=>l.keep b o e n nf (by simp)) _),dJ,F h2⟩
  | next=>exact False.elim hq
  | brk=>exact False.elim hq
  | cont=>exact False.elim hq
end
theorem Fun.okS0{P:Program}{w:World}{K:W.Frag}{mg:Str->Option Value}{base:Heap}{x qual:Str}{st:Stmt}{f:Addr}{fd:FuncData}{N ps:List Str}{k:Nat}{sp:SpS}(F:Fun K x qual st f fd)(S:FnScope N ps (zm st))(len:∀outer s vs H Q E,sp outer s vs H Q E->vs.length=ps.length)
  (a:∀(ad:Value) (A:Around) (outer:List Env) (s:Shared) (H:Hp) (vs:List V) (Q:VK) (E:XK),Room k (A.deeper (envOfC qual (zm st) s.heap.objs.size f ad))->sp outer s vs H Q E->
   ∃t,PSs (z3k CX0 P w K mg base N qual (zm st) f ad A outer s H E).nox (yq st) t/\t {nx:=λ_ H'=>Q .non H',rt:=Q} (start N vs) H):FnOkS P w K mg base CX0 (k + 1) f fd ps sp:=
 F.okS S len λad A outer s H vs Q E hr h=>by
  obtain⟨t,h1,q⟩:=a ad A outer s H vs Q E hr h;exact⟨t,h1.nox,q⟩
end L2

namespace L2
open PySem PySem.Spec PyProof.Rows
noncomputable def Ite(K:W.Frag)(b:Addr):It:=
 ⟨λi H => ∃ ys y, SqL K H b ys /\ ys[i]? = some y,
  λi H v H'=>∃p y,v= .ref p/\H p=none/\H'=upd H p (.tup [.int (i:Int),y])/\∀ys,SqL K H b ys->ys[i]? =some y,
  λi H=>∃ys,SqL K H b ys/\ys.length<=i⟩
def zdR(e it b:Addr)(i:Nat)(h:Heap):Prop:=(∃a,IsEnum h e it (i:Int) a)/\h.IsListIter it b i
variable{elts:List Expr}{tp:Pos}
theorem z9o{P:Program}{w:World}{K:W.Frag}{x1}{e it b:Addr}(C:e≠it):
  Turn P w K (.Tuple elts x1 tp) (Ite K b) [e,it] e (zdR e it b) where
 mem:=by simp
 obj:=λi h st c hc=>by
  obtain⟨⟨j,a⟩,⟨o2,A,c2,d2⟩⟩:=st;simp only [wH,qz,QD]at hc;rcases hc with rfl | rfl
  ·exact⟨_,a,λv q=>by cases q⟩
  ·exact⟨o2,A,λv q=>by rw [d2]at q;cases q⟩
 keep:=λi h h' st k=>by
  obtain⟨⟨j,a⟩,h2⟩:=st;exact⟨⟨j,k e (by simp) _ a⟩,h2.at λo z=>k it (by simp) o z⟩
 item:=by
  intro X u l t hc i pins s σ H E I d st n;subst u l t;obtain⟨ys,y,f,B⟩:=n;obtain⟨D,x,q,O⟩:=I.list f;obtain⟨v,G,Q⟩:=x.get B;obtain⟨⟨j,a⟩,h2⟩:=st;refine wpAny_pyNext_enum_item a h2 q.isList (by simpa using G) C λZ T L R Y F=>⟨_,rfl,?_⟩
  refine wpAny_letOwnedTupleGo_enum T λr N p=> ?_
  have lt:∀{c o},s.heap.get? c=some o->c≠s.heap.objs.size:=λz=>qe (wN z)
  have kk:∀c o,c∉ [e,it]->s.heap.get? c=some o->r.get? c=some o:=λc o hc z=>by
   simp only [wH,qz,QD,not_or]at hc;exact p.extBut _ _ hc.1 (F c o hc.1 hc.2 z)
  have M:r.get? s.heap.objs.size=some {cls:= .type "tuple",data:= .seq #[.int i s.toks,v]}:=p.extBut _ _ (w1p (lt a)) R;have fresh:H s.heap.objs.size=none:=I.hok.fresh (wu _);have J:Inv X pins σ (upd H s.heap.objs.size (.tup [.int (i:Int),y])) {s with heap:=r,toks:=s.toks + 1}:=I.turnedLaid (t':=s.toks + 1) (ch:= [e,it]) kk d (wu _) ⟨je (by show 2<=_;decide),[.int (i:Int) s.toks,v],.cons ⟨_,rfl⟩ (.cons Q .nil),⟨_,M,rfl,0,rfl⟩⟩;refine⟨.ref s.heap.objs.size,_,J,rfl,⟨s.heap.objs.size,y,rfl,fresh,rfl,λU h'=> ?_⟩,⟨⟨v,by simpa using N⟩,L.at λo z=>p.extBut _ o C.symm z⟩,λc hc=> ?_⟩
  ·rw [I.list_inj h' f];exact B
  ·have S:c≠s.heap.objs.size:=by
    simp only [wH,qz,QD]at hc;obtain⟨o2,A,_⟩:=id h2;rcases hc with rfl | rfl
    ·exact lt a
    ·exact lt A
   rw [zn S];exact(d c hc).1
 done:=by
  intro X u l t hc i pins s σ H E I d st n;subst u l t;obtain⟨ys,f,hx⟩:=n;obtain⟨D,x,q,O⟩:=I.list f;have hl:=x.length;obtain⟨⟨j,a⟩,h2⟩:=st;refine wpAny_pyNext_enum_end (I.ok.hd hc) a h2 q.isList (by simp;lia) λh' k=>⟨rfl,I.turnedL (t':=s.toks) (ch:= [e,it]) (λc o hc z=> ?_) d⟩
  simp only [wH,qz,QD,not_or]at hc;exact k c o hc.2 z
 self:=λ_ _ _ _ _ st h=>let ⟨⟨_,a⟩,_⟩:=st;wpAny_pyIter_enum a h
variable{X:Cx}
section
variable{x1:Nat}
def zeO(K:W.Frag)(ta:TA):TI:=λσ H R=>ta σ H λvs H1=>∃b,vs= [.ref b]/\(∃ys,SqL K H1 b ys)/\R (Ite K b) H1
theorem zci{b:Expr}{ta:TA}{p pos:Pos}(l:Gl X "enumerate")(hm:X.mg "enumerate"=none)(ha:PA X [b] ta)(hs:starEach [b] X.env= [(false,eval b X.env)]:=by rfl):
  PI X (.Tuple elts x1 tp) (.Call (.Name "enumerate" p) [b] [] pos) (zeO X.K ta):=by
 intro pins s σ H R I h;refine Call_ (z1l I l hm boot_enumerate (Qb (thn (ha pos pins s σ H _ I h) ?_) (by rw [hs];rfl) (by rfl)));rintro us s1 ⟨vs,H1,a,r1,q1⟩;obtain⟨l2,e,⟨ys,i⟩,q⟩:=q1;subst e;cases r1 with | cons n r2=>
 cases r2;cases n;obtain⟨o,r,pl,_⟩:=a.list i;refine call_enumerate_list pl.isList λh' f j t kk=> ?_
 refine wpAny_pyIter_enum f ?_;refine⟨s1.heap.objs.size + 1,[s1.heap.objs.size + 1,s1.heap.objs.size],_,_,H1,rfl,a.kept (t':=s1.toks) kk,z9o (b:=l2) (Nat.succ_ne_self _),⟨⟨_,f⟩,j⟩,λb c=> ?_,q⟩;have d:s1.heap.objs.size<=b:=by
  simp only [wH,qz,QD]at c;rcases c with e | e <;> rw [e]
  ·exact Nat.le_add_right _ 1
  ·exact wu _
 exact a.fpOk d (a.hok.fresh d)
end
structure KnC(P:Program)(w:World)(K:W.Frag)(mg:Str->Option Value)(base:Heap)(k:Nat)(x:Str)(ps:List Str)(sp:Sp)(C:Addr):Prop where
 ex:∃(f:Addr) (fd:FuncData),Mk K C f/\FnOk P w K mg base CX0 k f fd ps sp/\mg x=some (.ref C)/\Binds K fd ps []
structure KnM(P:Program)(w:World)(K:W.Frag)(mg:Str->Option Value)(base:Heap)(k:Nat)(m:Str)(ps:List Str)(sp:Sp)(C:Addr):Prop where
 cls:Cls K C
 ex:∃(f:Addr) (fd:FuncData),Meth K C m f/\FnOk P w K mg base CX0 k f fd ps sp/\Binds K fd ps []
section
variable{k:Nat}{x m:Str}{ps:List Str}{sp:Sp}{e o:Expr}{es:List Expr}{t:TA}{ta:TE}{p pos apos:Pos}{C:Addr}
theorem yt(M:KnC X.prog X.w X.K X.mg X.base k x ps sp C)(hr:Room (k + 1) X.A)(h:Gl X x)(ha:PA X (e :: es) t)
  (d:(x == ("__debug__":Str))=false:=by decide) (b:starEach (e :: es) X.env=(false,eval e X.env) :: starEach es X.env:=by rfl) (c:(backTo pos (starEach es X.env)).any (·.1)=false:=by rfl):
  PE X (.Call (.Name x p) (e :: es) [] pos) (zd1 C sp [] E0 t):=by
 obtain⟨f,fd,M,F,hm,a⟩:=M.ex;exact zc6 M F hr h hm a .nil z3B ha d b c
theorem zaH{pl:Sem Bool}(M:KnM X.prog X.w X.K X.mg X.base k m ps sp C)(hr:Room k X.A)(d:PE X o ta)(ha:PA X (e :: es) t)
  (h:starEach (e :: es) X.env=(false,eval e X.env) :: starEach es X.env:=by rfl) (c:(backTo pos (starEach es X.env)).any (·.1)=false:=by rfl)
  (ht:eval (.Call (.Attribute o m apos) (e :: es) [] pos) X.env=(do
   let a<-eval o X.env
   standAt apos.atName
   let (f,first)<-holding [a] (getMethod a m pl)
   callWith pos f first (backTo pos (starEach (e :: es) X.env)) (backToKw pos (keywordEach [] X.env))):=by rfl):
  PE X (.Call (.Attribute o m apos) (e :: es) [] pos) (z8u C m sp [] E0 ta t):=by
 obtain⟨f,fd,hm,F,b⟩:=M.ex;exact zcC d M.cls hm F hr b .nil z3B ha h c ht
theorem z9k{pl:Sem Bool}(M:KnM X.prog X.w X.K X.mg X.base k m ps sp C)(hr:Room k X.A)(c:PE X o ta)
  (ht:eval (.Call (.Attribute o m apos) [] [] pos) X.env=(do
   let a<-eval o X.env
   standAt apos.atName
   let (f,first)<-holding [a] (getMethod a m pl)
   callWith pos f first (backTo pos (starEach [] X.env)) (backToKw pos (keywordEach [] X.env))):=by rfl):
  PE X (.Call (.Attribute o m apos) [] [] pos) (z8u C m sp [] E0 ta zdc):=by
 obtain⟨f,fd,hm,F,b⟩:=M.ex;exact zaa c M.cls hm F hr b .nil z3B ht
end
end L2

namespace L2
open PySem PySem.Spec PyProof.Rows
noncomputable def Itv(K:W.Frag)(a:Addr)(n:Nat):It:=
 ⟨λi H=>i < n/\∃xs x,SqL K H a xs/\xs[n - 1 - i]? =some x,λi H x H'=>H'=H/\∀xs,SqL K H a xs->xs[n - 1 - i]? =some x,λi _=>n<=i⟩
variable{tg:Expr}{K:W.Frag}
theorem zbi{P:Program}{w:World}(a it:Addr)(n:Nat):Turn P w K tg (Itv K a n) [it] it (λi h=>i<=n/\h.IsRevIter it a ((n:Int) - 1 - (i:Int))) where
 mem:=by simp
 obj:=λi h st b f=>by
  have e:b=it:=by simpa using f
  subst e;obtain⟨_,o,e,c,d⟩:=st;exact⟨o,e,λv z=>by rw [d]at z;cases z⟩
 keep:=λi h h' st k=>⟨st.1,st.2.at λo e=>k it (by simp) o e⟩
 item:=by
  intro X D r C hc i pins s σ H E I l st q;subst D r C;obtain⟨hi,xs,x,hq,G⟩:=q;obtain⟨its,Q,p,hz⟩:=I.list hq;obtain⟨u,L,O⟩:=Q.get G;obtain⟨f0,f1,f2,y,t,A⟩:=l it (by simp);have B:(n:Int) - 1 - (i:Int)=((n - 1 - i:Nat):Int):=by lia
  have j:=st.2;rw [B]at j;refine wpAny_pyNext_rev_item j p.isList (x:=u) (by simpa using L) λh' F R=> ?_
  have M:Inv X pins σ H {s with heap:=h'}:=I.turned (t':=s.toks) (λb o f e=>(R.2 b f).trans e) f0 f1 y t A;obtain⟨o,e,c,d⟩:=id F;have N:((n - 1 - i:Nat):Int) - 1=(n:Int) - 1 - ((i + 1:Nat):Int):=by lia
  exact⟨u,rfl,z93 (s:={s with heap:=h'}) e c d (by decide) ⟨x,H,M,O,⟨rfl,λys J=>by rw [I.list_inj J hq];exact G⟩,⟨hi,by rw [<-N];exact F⟩,λb f=>(l b f).1⟩⟩
 done:=by
  intro X D r C hc i pins s σ H E I l st q;subst D r C;have q:n<=i:=q;obtain⟨f0,f1,f2,y,t,A⟩:=l it (by simp);have B:(n:Int) - 1 - (i:Int)= -1:=by have:=st.1;lia
  have j:=st.2;rw [B]at j;exact wpAny_pyNext_rev_end (I.ok.hd hc) j λh' k=>⟨rfl,I.turned (t':=s.toks) (λb o f e=>k b o f e) f0 f1 y t A⟩
 self:=λ_ _ _ _ _ st h=>wpAny_pyIter_revIter st.2 h
section
variable{X:Cx}
def zfB(K:W.Frag)(ta:TA):TI:=λσ H R=>ta σ H λvs H1=>∃a xs,vs= [.ref a]/\SqL K H1 a xs/\R (Itv K a xs.length) H1
theorem zeb{b:Expr}{ta:TA}{p pos:Pos}(i:Gl X "reversed")(hm:X.mg "reversed"=none)(ha:PA X [b] ta)(hs:starEach [b] X.env= [(false,eval b X.env)]:=by rfl):
  PI X tg (.Call (.Name "reversed" p) [b] [] pos) (zfB X.K ta):=by
 intro pins s σ H R I h;refine Call_ (z1l I i hm PyProof.Rows.boot_reversed (Qb (thn (ha pos pins s σ H _ I h) ?_) (by rw [hs];rfl) (by rfl)));rintro us s1 ⟨vs,H1,a,r1,q1⟩;obtain⟨l2,xs,e,f,q⟩:=q1;subst e;cases r1 with | cons n r2=>
 cases r2;cases n;obtain⟨d,j,pl,_⟩:=a.list f;have hl:=j.length;refine call_reversed_list pl.isList ?_;refine wpAny_pyIter_revIter ⟨_,qi _ rfl,rfl,rfl⟩ ?_;have l:((d.toArray.size:Nat):Int) - 1=((xs.length:Nat):Int) - 1 - ((0:Nat):Int):=by rw [wB];lia
 refine⟨s1.heap.objs.size,[s1.heap.objs.size],_,_,H1,rfl,a.kept (t':=s1.toks) λb o e=>wo _ e,zbi l2 _ xs.length,⟨Q6 _,by rw [<-l];exact⟨_,qi _ rfl,rfl,rfl⟩⟩,λb c=> ?_,q⟩;have e:b=s1.heap.objs.size:=by simpa using c
 subst e;exact a.fpOk (wu _) (a.hok.fresh (wu _))
end
variable{H:Hp}
theorem zbU{a:Addr}{xs:List V}{g:TG}{tb:TS}{D:Ends}{σ:St}(b:Nat->St->Hp->Prop)(h0:b 0 σ H)(hl:∀i σ H,i<=xs.length->b i σ H->SqL K H a xs)
  (hs:∀i x σ H,xs.reverse[i]? =some x->b i σ H->g x σ H λσ2 H2=>tb {D with nx:=b (i + 1),ct:=b (i + 1),bk:=D.nx} σ2 H2) (hd:∀σ H,b xs.length σ H->D.nx σ H):
  ∃W:Nat->Nat->St->Hp->Prop,(∃m,W 0 m σ H)/\∀i m σ H,W i m σ H->
   ((Itv K a xs.length).stop i H/\D.nx σ H)\/((Itv K a xs.length).go i H/\∃N:St->Hp->Prop,(∀σ' H',N σ' H'->∃c,c < m/\W (i + 1) c σ' H')/\∀x H',(Itv K a xs.length).yld i H x H'->g x σ H' λσ2 H2=>tb {D with nx:=N,ct:=N,bk:=D.nx} σ2 H2):=by
 refine⟨λi m σ H=>m=xs.length - i/\i<=xs.length/\b i σ H,⟨xs.length,by simp,Q6 _,h0⟩,?_⟩;rintro i m σ H ⟨rfl,hi,p⟩;have q:=hl i σ H hi p;by_cases ag:i < xs.length
 ·refine .inr ⟨⟨ag,xs,xs[xs.length - 1 - i],q,by rw [we (by lia)]⟩,b (i + 1),λσ' H' p'=>⟨xs.length - (i + 1),by lia,rfl,ag,p'⟩,λx H' y=> ?_⟩;obtain⟨e,y⟩:=y;subst e;exact hs i x σ _ (by rw [List.getElem?_reverse ag];exact y xs q) p
 ·have e:i=xs.length:=by lia
  subst e;exact .inl ⟨wu _,hd σ H p⟩
theorem z9i{b:Addr}{ys:List V}{tc:TT}{te:TE}{Q:List V->Hp->Prop}(a:Nat->List V->Hp->Prop)(h0:a 0 [] H)(hl:∀i zs H,i<=ys.length->a i zs H->SqL K H b ys/\zs.length < sizeLine)
  (hs:∀(i:Nat) y zs H p,ys[i]? =some y->a i zs H->H p=none->tc [some (.int (i:Int)),some y] (upd H p (.tup [.int (i:Int),y])) λc H2=>if c=true then te [some (.int (i:Int)),some y] H2 λz d=>a (i + 1) (zs ++ [z]) d else a (i + 1) zs H2) (hd:∀zs H,a ys.length zs H->Q zs H):
  z22 (Ite K b) (zdP K 2 (z6x (z1Z 0) (z6x (z1Z 1) zdt))) tc te Q [none,none] H:=by
 refine⟨zfD,λi m zs H=>m=ys.length - i/\i<=ys.length/\a i zs H,⟨_,_,rfl⟩,⟨_,rfl,Q6 _,h0⟩,?_⟩;rintro i m zs σ H ⟨o1,o2,rfl⟩ ⟨rfl,hi,p⟩;obtain⟨f,hz⟩:=hl i zs H hi p;refine⟨hz,?_⟩;by_cases ag:i < ys.length
 ·refine .inr ⟨⟨ys,ys[i],f,by simp [ag]⟩,λy d=>a (i + 1) (zs ++ [y]) d,λH2=>a (i + 1) zs H2,λy d z=>⟨ys.length - (i + 1),by lia,rfl,ag,z⟩,λH2 z=>⟨ys.length - (i + 1),by lia,rfl,ag,z⟩,λx H' y=> ?_⟩;obtain⟨h,v,rfl,hp,rfl,j⟩:=y;exact⟨h,[.int (i:Int),v],rfl,SqT.of zl,rfl,_,[v],rfl,v,[],rfl,rfl,⟨_,_,rfl⟩,hs i v zs H h (j ys f) p hp⟩
 ·have e:i=ys.length:=by lia
  subst e;exact .inl ⟨⟨ys,f,wu _⟩,hd zs H p⟩
end L2

namespace L2
open PySem PySem.Spec PyProof.Rows
variable{X:Cx}
theorem z3U{K:W.Frag}{e:Expr}{f:Str}{pos:Pos}{ta:TE}(h:X.K=K)(b:PE X e ta)(a:attributeBase e f X.env (eval e X.env)=eval e X.env):PE X (.Attribute e f pos) (zf1 K ta f):=by
 subst h;exact zE b a
theorem zar:∀{bs:List Bool} {us:List Value},zQ (bs.map V.bl) us->us=bs.map Value.bool
 | [],_,r=>by rw [w0W]at r;cases r;rfl
 | b :: bs,_,r=>by
  rw [qK]at r;cases r with
  | cons r1 r2=>
   rw [zar r2,show _=Value.bool b from r1]
   rfl
theorem zbD(hc:X.calm=true):kj X (.builtin "all") (λxs H Q=>∃(a:Addr) (bs:List Bool),xs= [.ref a]/\SqL X.K H a (bs.map V.bl)/\Q (.bl (bs.all id)) H):=by
 intro pins s σ H xs us Q I r h;obtain⟨a,bs,rfl,hq,q⟩:=h;obtain⟨u,rfl,n⟩:=vals1 r;cases n;obtain⟨its,r',pl,hz⟩:=I.list hq;have w:=zar r';subst w;have l:a < s.heap.objs.size:=let ⟨o,ho,_⟩:=pl.isList;wN ho
 refine call_all_walk (wpAny_pyIter_list pl.isList ?_);refine⟨s.heap.objs.size,_,_,_,_,_,λi=>bs.getD i false,rfl,Walks.list (A:=X.A.in1) (I.ok.hd hc) _ a (qe l) (bs.map Value.bool).toArray,⟨⟨_,qi _ rfl,rfl,rfl⟩,pl.isList.at λo e=>wo _ e⟩,λi v s' j x c f=> ?_,λh' tk t=> ?_⟩
 ·have c:((bs.map Value.bool).toArray)[i]? =some v:=c;rw [List.getElem?_toArray,wQ]at c;cases d:bs[i]? with
  | none=>rw [d]at c;cases c
  | some b=>
   rw [d]at c;cases c;have e:bs.getD i false=b:=by rw [ww,d];rfl
   have f:j (bs.getD i false) s':=f;rw [e]at f;exact w0D f
 ·have p:((List.range ((bs.map Value.bool).toArray.size)).all λi=>bs.getD i false)=bs.all id:=by
   rw [wB,w9,w0k,qQ,qQ];constructor
   ·intro h b d;obtain⟨i,hi,rfl⟩:=List.getElem_of_mem d;have:=h i (Qp.mpr hi)
    rwa [ww,we hi]at this
   ·intro h i hi;have hi:=Qp.mp hi;rw [ww,we hi];exact h _ (wI hi)
  rw [p];refine⟨.bl (bs.all id),H,I.kept λb o e=>t b o (λz=> ?_) (wo _ e),rfl,q⟩;rw [wz.mp z]at e;exact absurd (wN e) (QC _)
theorem z9d:bootBuiltins "all"=some (.builtin "all"):=by decide +kernel
end L2

namespace L2
open PySem PySem.Spec PyProof.Rows
theorem z8J{v:V}{s:Str}:eqV v (.str s)=true↔v= .str s:=by
 cases v <;> simp [eqV]
def zdq(K:W.Frag):R2:=λx y H Q=>∃(a b:Addr) (xs:List V) (ss:List Str),x= .ref a/\y= .ref b/\SqT K H a xs/\SqT K H b (ss.map V.str)/\(∀v∈xs,yY v=true\/∃p zs,v= .ref p/\SqT K H p zs)/\∀t:Bool,(t=true↔xs=ss.map V.str)->Q (.bl t) H
variable{X:Cx}
theorem z6q{K:W.Frag}(M:X.K=K)(t:X.A.units + 1 < cLine):OpR X (compareOp .Eq) (zdq K):=by
 subst M;intro pins s σ H x y v u Q I D B h;have w:X.A.units < cLine:=by lia
 obtain⟨a,b,xs,ss,rfl,rfl,ha,o,L,q⟩:=h;cases D;cases B;obtain⟨its,r,pl,hz⟩:=I.tuple ha;obtain⟨F,r2,z,_⟩:=I.tuple o;have l1:=r.length;have l2:=r2.length;rw [w9]at l2;refine SeqAt.eq_tupleAt (e:=λj=>eqV (xs.getD j .non) ((ss.map V.str).getD j .non)) (show s.heap.IsTuple a its.toArray from pl) (show s.heap.IsTuple b F.toArray from z) w (λj h1 h2=> ?_) ⟨.bl _,H,I,rfl,q _ ?_⟩
 ·rw [wB]at h1 h2;have N:j < xs.length:=by lia
  have c:j < ss.length:=by lia
  have i:xs[j]? =some xs[j]:=we N;have n:(ss.map V.str)[j]? =some (.str ss[j]):=by rw [wQ,we c];rfl
  obtain⟨w1,G,d⟩:=r.get i;obtain⟨w2,C,l⟩:=r2.get n;rw [w17,w17,(wk.mp G).2,(wk.mp C).2,ww,ww,i,n];rcases L _ (qA i)with f | ⟨p,zs,e,hp⟩
  ·exact z7I d l f rfl
  ·show SeqAt.EqAt _ _ _ _ (eqV xs[j] (.str ss[j]))
   rw [e]at d ⊢;cases (show w1=Value.ref p from d);obtain⟨S,rfl⟩:=l;obtain⟨O,_,J,_⟩:=I.tuple hp;exact SeqAt.EqAt.tuple_str _ _ (show s.heap.IsTuple p O.toArray from J) (by show X.A.units + 1 < cLine;exact t)
 ·rw [wB,wB,<-l1,<-l2];constructor
  ·intro h;rw [Q2,qQ,Qt]at h;obtain⟨h1,h2⟩:=h;refine List.ext_getElem (by rw [w9];exact h2) λj P R=> ?_
   have:=h1 j (Qp.mpr (by lia));have c:j < ss.length:=by lia
   rw [ww,ww,we P,wQ,we c]at this;rw [List.getElem_map];exact z8J.mp this
  ·rintro rfl;rw [w9,Q2,qQ,Qt];refine⟨λj E=> ?_,rfl⟩;have c:j < ss.length:=by have:=Qp.mp E;lia
   rw [ww,wQ,we c];exact z8J.mpr rfl
def zdd(sp:Sp)(t:TA):TE:=λσ H Q=>t σ H λvs H1=>∃d xs,H1 d=some (.lst xs)/\sp (vs ++ []) (hid H1 d) (λv H2=>H2 d=none->Q v (upd H2 d (.lst xs))) E0
theorem zad{k:Nat}{x:Str}{ps:List Str}{sp:Sp}{e:Expr}{es:List Expr}{t:TA}{p pos:Pos}(C:Kn X.prog X.w X.K X.mg X.base k x ps sp)(hr:Room k X.A)(N:Gl X x)(ha:PA X (e :: es) t)
  (J:(x == ("__debug__":Str))=false:=by decide) (Z:starEach (e :: es) X.env=(false,eval e X.env) :: starEach es X.env:=by rfl) (P:(backTo pos (starEach es X.env)).any (·.1)=false:=by rfl):
  PE X (.Call (.Name x p) (e :: es) [] pos) (zdd sp t):=by
 obtain⟨f,fd,F,hm,S,G⟩:=C.ex;intro pins s σ H Q I h;refine Qx (z37 I N hm ?_ J);refine w0T (h₀:=X.base) I.ok.mod.kin S (thn (ha pos pins s σ H _ I h) ?_) Z P;rintro us s1 ⟨vs,H1,a,r,d,xs,c,q⟩;refine⟨a.kIn,?_⟩;have j:=a.hide c;have same:∀s':Shared,(∀b o,s1.heap.get? b=some o->hid H1 d b=none->b∉frs X.stack->s'.heap.get? b=some o)->∀B:Hp,jm X.prog X.w B s'.heap d (.lst xs):=λs' kp B=>by
  obtain⟨D,its,n,E,i⟩:=(show jm X.prog X.w H1 s1.heap d (.lst xs)from a.hok d _ c);exact⟨D,its,n,E,kp d _ i yE λz=>by have:=a.stkFree d z;rw [c]at this;cases this⟩
 have r2:zQ (vs ++ []) (us ++ []):=r.append .nil;have hl:(us ++ []).length=ps.length:=by rw [<-r2.length];exact F.len _ _ _ _ q
 refine w1J (w0u (F.run X.A X.stack s1 (hid H1 d) ⟨us,[]⟩ (us ++ []) (vs ++ []) _ E0 hr j.env0 (G s1 us a.kIn hl) r2 q) λr s' hq=> ?_);cases r with
 | error e=>exact z3B pins σ _ s1 e s' j hq
 | ok U=>
  cases U with
  | ret u=>
   obtain⟨v,H2,c1,Y,y,T,rv,L⟩:=hq;obtain⟨v',l,M,dJ,R,O⟩:=j.after (Q:=λv' H'=>v'=v/\H'=H2) ⟨v,H2,c1,Y,y,T,rv,rfl,rfl⟩;subst R O;have h2:l d=none:=by
    obtain⟨D,its,n,E,i⟩:=(show jm X.prog X.w H1 s1.heap d (.lst xs)from a.hok d _ c);exact y.free d _ i yE (by simp)
   exact⟨v',_,M.readopt a c h2 (same s' (λb o e n nf=>y.keep b o e n nf (by simp)) _),dJ,L h2⟩
  | next=>exact False.elim hq
  | brk=>exact False.elim hq
  | cont=>exact False.elim hq
theorem z2i{prog:Program}{w:World}{A:Around}{E:Value->Shared->Prop}{s:Shared}{t sl:Addr}{items:Array Value}{c b:Value}{lo hi:Option Int}{Q:Value->Shared->Prop}(ht:IsTup s.heap t items)(hs:s.heap.IsSliceOf sl c b .none)(pl:IsPart c lo)(e:IsPart b hi)
  (a:HT.sIx items.size 0 lo=0/\HT.sIx items.size items.size hi=items.size) (h:Q (.ref t) s):wpAny (model prog w) A (getItem (.ref t) (.ref sl)) Q E s:=by
 obtain⟨os,i,j,hds⟩:=id hs;have d:s.TypeIs (.ref sl) "slice":=⟨os,i,j⟩;unfold getItem
 try with_reducible refine QV ?_
 first | refine wC (qd ?_) | skip
 refine wC (wpAny_sequenceKey ht.typeIs (by decide) ?_);refine wC (wpAny_callSpecial?_slot (name:=Str.ofString "__getitem__") ht.typeIs Qc
  (wpAny_call_entry Qc ht.typeIs entry_tuple_getitem ?_ (args_tuple_getitem _ _)))
 show wpAny _ _ (Builtin.Tuple.tupleItemsOf (.ref t) >>= _) _ _ s
 refine wC (tupleItemsOf_ ht ?_);refine wC (wpAny_typeOf d ?_);rw [wY (by decide)];refine wC (HT.sliceApplied_gen hs pl e ?_);have f:((((HT.sIx items.size 0 lo:Nat):Int) == 0 && (1:Int) == 1 && (HT.sIx items.size items.size hi - HT.sIx items.size 0 lo) == items.size)=true):=by
  rw [a.1,a.2];simp
 show wpAny _ _ (if(((HT.sIx items.size 0 lo:Nat):Int) == 0 && (1:Int) == 1 && (HT.sIx items.size items.size hi - HT.sIx items.size 0 lo) == items.size)=true then _ else _) _ _ s
 rw [wY f];refine wC ?_;unfold Builtin.Tuple.tupleIsExact;refine wC (wpAny_typeOf ht.typeIs (qd ?_));rw [wY (by decide)];refine wC (wpAny_rule ?_);exact qd ⟨_,rfl,qd h⟩
def zdh(K:W.Frag):V->Option Int->Option Int->Hp->VK->Prop:=λx lo hi H Q=>∃a xs,x= .ref a/\SqT K H a xs/\(HT.sIx xs.length 0 lo=0/\HT.sIx xs.length xs.length hi=xs.length)/\Q (.ref a) H
theorem zao:SlR X (zdh X.K):=by
 intro pins s σ H x v i f lo hi sl Q I c hs pl d h;obtain⟨a,xs,rfl,e,b,q⟩:=h;cases c;obtain⟨its,r,ht,hz⟩:=I.tuple e;have hlen:its.toArray.size=xs.length:=by rw [wB];exact r.length.symm
 refine⟨"tuple",_,Qc.lookup,ht.typeIs,?_⟩;exact z2i ht hs pl d (by rw [hlen];exact b) ⟨.ref a,H,I,rfl,q⟩
def z8r:SlR X (λx lo hi H Q=>ze5 X.K x lo hi H Q\/zdh X.K x lo hi H Q):=z14.or zao
end L2

namespace L2
open PySem PySem.Spec PyProof.Rows
variable{X:Cx}{ps:List Str}{sp:Sp}
theorem zcy{k:Nat}{f d:Addr}{fd:FuncData}{pins:List (Addr×Obj)}{σ:St}{H1:Hp}{s1:Shared}{Q:VK}{us:List Value}{vs xs:List V}(F:FnOk X.prog X.w X.K X.mg X.base CX0 k f fd ps sp)(hr:Room k X.A)(x:Binds X.K fd ps [])
  (a:Inv X pins σ H1 s1) (r:zQ vs us) (c:H1 d=some (.lst xs)) (q:sp (vs ++ []) (hid H1 d) (λv H2=>H2 d=none->Q v (upd H2 d (.lst xs))) E0):wpAny (model X.prog X.w) X.A (call (.ref f) us) (EP X pins σ Q) X.xe s1:=by
 have i:=a.hide c;have same:∀s':Shared,(∀b o,s1.heap.get? b=some o->hid H1 d b=none->b∉frs X.stack->s'.heap.get? b=some o)->∀p:Hp,jm X.prog X.w p s'.heap d (.lst xs):=λs' kp p=>by
  obtain⟨s,its,n,t,h⟩:=(show jm X.prog X.w H1 s1.heap d (.lst xs)from a.hok d _ c);exact⟨s,its,n,t,kp d _ h yE λz=>by have:=a.stkFree d z;rw [c]at this;cases this⟩
 have r2:zQ (vs ++ []) (us ++ []):=r.append .nil;have hl:(us ++ []).length=ps.length:=by rw [<-r2.length];exact F.len _ _ _ _ q
 refine w1J (w0u (F.run X.A X.stack s1 (hid H1 d) ⟨us,[]⟩ (us ++ []) (vs ++ []) _ E0 hr i.env0 (x s1 us a.kIn hl) r2 q) λr s' hq=> ?_);cases r with
 | error e=>exact z3B pins σ _ s1 e s' i hq
 | ok G=>
  cases G with
  | ret u=>
   obtain⟨v,H2,c1,H,l,E,I,y⟩:=hq;obtain⟨v',j,B,J,D,C⟩:=i.after (Q:=λv' H'=>v'=v/\H'=H2) ⟨v,H2,c1,H,l,E,I,rfl,rfl⟩;subst D C;have h2:j d=none:=by
    obtain⟨s,its,n,t,h⟩:=(show jm X.prog X.w H1 s1.heap d (.lst xs)from a.hok d _ c);exact l.free d _ h yE (by simp)
   exact⟨v',_,B.readopt a c h2 (same s' (λb o e n nf=>l.keep b o e n nf (by simp)) _),J,y h2⟩
  | next=>exact False.elim hq
  | brk=>exact False.elim hq
  | cont=>exact False.elim hq
noncomputable def ze6(C:Addr)(m:Str)(sp:Sp)(ta:TE):TE:=λσ H Q=>ta σ H λx H1=>∃a dx fs d xs,x= .ref a/\H1 a=some (.ins C dx fs)/\fs.lookup m=none/\H1 d=some (.lst xs)/\sp [x] (hid H1 d) (λv H2=>H2 d=none->Q v (upd H2 d (.lst xs))) E0
theorem z6Z{k:Nat}{m:Str}{o:Expr}{ta:TE}{pos apos:Pos}{C:Addr}{pl:Sem Bool}(M:KnM X.prog X.w X.K X.mg X.base k m ps sp C)(hr:Room k X.A)(n:PE X o ta)
  (ht:eval (.Call (.Attribute o m apos) [] [] pos) X.env=(do
   let c<-eval o X.env
   standAt apos.atName
   let (f,first)<-holding [c] (getMethod c m pl)
   callWith pos f first (backTo pos (starEach [] X.env)) (backToKw pos (keywordEach [] X.env))):=by rfl):
  PE X (.Call (.Attribute o m apos) [] [] pos) (ze6 C m sp ta):=by
 obtain⟨f,fd,hm,F,e⟩:=M.ex;intro pins s σ H Q I h;refine PySem.W.methodCall_KW (pl:=pl) (thn (n pins s σ H _ I h) ?_) ht;rintro u s1 ⟨x,H1,b,j,a,dx,fs,d,xs,ex,p,l,i,q⟩;subst ex;obtain rfl:u=Value.ref a:=j;refine z2D b p M.cls hm l ?_;exact PySem.W.callWith_K0 (first:= [.ref a]) b.kIn hm.kp (zcy (us:= [.ref a]) (vs:= [.ref a]) F hr e b (.cons rfl .nil) i q)
end L2

set_option Elab.async false
set_option linter.all false
set_option maxRecDepth 100000
set_option maxHeartbeats 1000000
namespace L2
open PySem PySem.Spec PyProof.Rows
theorem Room.m{j k:Nat}{A:Around}(r:Room k A)(h:j<=k:=by first | decide | lia):Room j A:=r.mono h
end L2
namespace Q12
open PySem L2 Cn Rw Qs
noncomputable def top(i:Nat):Stmt:=PySem.Challenge.pw_sheetask_k13_whole_one_turning_each.main.body.getD i (.Pass ⟨0,0,0,0⟩)
noncomputable abbrev z1q:Stmt:=top 1
noncomputable abbrev ku:Stmt:=top 11
noncomputable abbrev z0X:Stmt:=top 12
noncomputable abbrev z2z:Stmt:=top 13
noncomputable abbrev kQ:Stmt:=top 15
noncomputable abbrev z0h:Stmt:=top 16
noncomputable abbrev z1F:Stmt:=top 17
noncomputable abbrev kL:Stmt:=top 18
noncomputable abbrev kN:Stmt:=top 19
noncomputable abbrev z2x:Stmt:=top 20
noncomputable abbrev z3t:Stmt:=top 22
noncomputable abbrev z4l:Stmt:=top 23
noncomputable abbrev z3T:Stmt:=top 24
noncomputable abbrev z1R:Stmt:=top 25
noncomputable abbrev kS:Stmt:=top 26
noncomputable abbrev kU:Stmt:=top 27
noncomputable abbrev z6j:Stmt:=top 28
noncomputable abbrev z4n:Stmt:=top 29
noncomputable abbrev z0W:Stmt:=top 30
noncomputable abbrev z0F:Stmt:=top 31
noncomputable abbrev z4E:Stmt:=top 32
noncomputable abbrev z0p:Stmt:=top 34
noncomputable abbrev z2t:Stmt:=top 36
noncomputable abbrev z1j:Stmt:=top 38
noncomputable abbrev z1G:Stmt:=top 39
noncomputable abbrev z1v:Stmt:=top 40
noncomputable abbrev z0A:Stmt:=top 41
noncomputable abbrev z1m:Stmt:=top 42
noncomputable abbrev yC:Stmt:=top 43
noncomputable abbrev kD:Stmt:=top 44
noncomputable abbrev ke:Stmt:=top 45
noncomputable abbrev z08:Stmt:=top 46
noncomputable abbrev z0S:Stmt:=top 47
noncomputable abbrev kX:Stmt:=top 48
noncomputable abbrev yf:Stmt:=top 49
noncomputable abbrev kY:Stmt:=top 50
noncomputable abbrev z0Z:Stmt:=top 51
noncomputable abbrev z0x:Stmt:=top 52
noncomputable abbrev z01:Stmt:=top 53
noncomputable abbrev yd:Stmt:=top 54
noncomputable abbrev z1p:Stmt:=top 55
noncomputable abbrev z1U:Stmt:=top 56
noncomputable abbrev yj:Stmt:=top 57
noncomputable abbrev z0o:Stmt:=top 58
noncomputable abbrev yM:Stmt:=top 59
noncomputable abbrev z0Y:Stmt:=top 60
noncomputable abbrev z0t:Stmt:=top 61
noncomputable abbrev kZ:Stmt:=top 62
noncomputable abbrev z5E:Stmt:=top 63
structure Txt(K:W.Frag)(mg:Str->Option Value):Prop where
 isinstance:mg "isinstance"=none
 int:mg "int"=none
 bool:mg "bool"=none
 list:mg "list"=none
 tuple:mg "tuple"=none
 str:mg "str"=none
 len:mg "len"=none
 range:mg "range"=none
 min:mg "min"=none
 max:mg "max"=none
 sum:mg "sum"=none
 sorted:mg "sorted"=none
 reversed:mg "reversed"=none
 zip:mg "zip"=none
variable{P:Program}{w:World}{mg:Str->Option Value}{base:Heap}{a rs:List (Addr×List Int)}{b ip:Bool}{H H' H0 H1 H2:Hp}{p D np l0 rp r0 r1 r2 t d C ah wl dx al T4:Addr}{xs ys ws vs us:List V}{i j hl:Nat}{Q:V->Prop}{α:Type}{n s:Str}{tb:TS}{hs ns ss hq hr:List Str}{c:Cond}{x:List Int}{r q q' k' r' w':Qn}{th:Str->List Str}{tr:Str->List (List Int)}{sp:Sp}{y qv u:V}{o:HO}{mk:Qn->Qn->Qn}{E:XK}{R:Addr->VK}
section
variable{K:W.Frag}{f:Addr}{fd:FuncData}
seal PE PA PS PSs PT PI PO PG
local macro_rules | `(tactic| walk_at "s")=>`(tactic| exact⟨rfl,rfl,rfl,by decide +kernel,rfl,by decide +kernel,by decide +kernel⟩)
theorem nb{a b:Str}(h:(a == b)=false):a≠b:=qj h
local macro_rules | `(tactic| walk_at "cn")=>`(tactic| exact⟨by intros;(try dsimp only [z3k,Cx.nox,Cx.wish]) <;> exact rfl⟩)
local macro_rules | `(tactic| walk_at "cl")=>`(tactic| with_reducible first | exact zdA | exact zcu | exact zcn | exact zbJ (by walk_at "ca") (by walk_at "cl") | exact zaF (by walk_at "ca") (by walk_at "cl") | exact zah (by walk_at "ca") (by walk_at "cl") | exact zdl (by walk_at "ca") | exact zc4 (by walk_at "ca") | exact zbT (by walk_at "ca"))
local macro_rules | `(tactic| walk_at "ca")=>`(tactic| with_reducible first | exact zf7 (by walk_at "cl") (by walk_at "cl") (by walk_at "cn") | exact zdS (by walk_at "cl") (by walk_at "cl") (by walk_at "cn") | exact ze7 (by walk_at "cl") (by walk_at "cl") (by walk_at "cn") | exact zdE (by walk_at "cl") (by walk_at "cl") (by walk_at "cn") | exact zcK (by walk_at "cl") (by walk_at "cl") (by walk_at "cn") | exact ca_ifJ3 (by walk_at "cl") (by walk_at "cl") (by walk_at "cn") | exact zbw (by walk_at "cl") (by walk_at "cn") | exact z9z (by walk_at "cl") (by walk_at "cn") | exact z9W (by walk_at "cl") (by walk_at "cn") | exact zdo (by walk_at "cl") (by walk_at "cn") | exact ca_for2 (by walk_at "cl") (by walk_at "cn") | exact zbQ (by walk_at "cl") (by walk_at "cn") | walk_at "cn")
def zx{i:Int}{v:V}(h:H p=some (.lst xs))(e:atI xs i=some v)(q:Q v):∃p' b a v',V.ref p= .ref p'/\V.int i= .int a/\SqL K H p' b/\atI b a=some v'/\Q v':=⟨p,xs,i,v,rfl,rfl,SqL.of h,e,q⟩
def zh{i:Int}{v:V}(h:H p=some (.tup xs))(e:atI xs i=some v)(q:Q v):∃p' b a v',V.ref p= .ref p'/\V.int i= .int a/\SqT K H p' b/\atI b a=some v'/\Q v':=⟨p,xs,i,v,rfl,rfl,SqT.of h,e,q⟩
def exr{P Q:α->Prop}{a:α}(h:P a)(q:Q a):∃x,P x/\Q x:=⟨a,h,q⟩
local macro_rules|`(!$x)=>`(exr rfl $x)
def ex2{β:Type}{A:α->Prop}{B:β->Prop}{Q:α->β->Prop}{a:α}{b:β}(h1:A a)(h2:B b)(q:Q a b):∃x y,A x/\B y/\Q x y:=⟨a,b,h1,h2,q⟩
theorem z2W(f:α->V)(xs:List α)(lo hi:Option Int):z0H (xs.map f) lo hi=((xs.drop (HT.sIx xs.length 0 lo)).take (HT.sIx xs.length xs.length hi - HT.sIx xs.length 0 lo)).map f:=by
 unfold z0H;rw [w9,w0N,List.map_drop]
variable{σ:St}
theorem z49{lo:Int}{n:Nat}{g:TG}{D:Ends}(a:Nat->St->Hp->Prop)(h0:a 0 σ H)
  (hs:∀i σ H (b:Ends),(∀σ H,a (i + 1) σ H->b.nx σ H)->(∀v H,D.rt v H->b.rt v H)->i < n->a i σ H->g (.int (lo + i)) σ H λσ2 H2=>tb b σ2 H2) (hd:∀σ H,a n σ H->D.nx σ H):
  ∃W:Nat->Nat->St->Hp->Prop,(∃m,W 0 m σ H)/\∀i m σ H,W i m σ H->
   ((Itr lo n).stop i H/\D.nx σ H)\/((Itr lo n).go i H/\∃N:St->Hp->Prop,(∀σ' H',N σ' H'->∃c,c < m/\W (i + 1) c σ' H')/\∀x H',(Itr lo n).yld i H x H'->g x σ H' λσ2 H2=>tb {D with nx:=N,ct:=N,bk:=D.nx} σ2 H2):=
 z0v a h0 (λi σ H hi p=>hs i σ H _ (λ_ _ z=>z) (λ_ _ z=>z) hi p) hd
theorem z6l{a:Addr}{g:TG}{D:Ends}(b:Nat->St->Hp->Prop)(h0:b 0 σ H)(hl:∀i σ H,i<=xs.length->b i σ H->SqL K H a xs)
  (hs:∀i x σ H (c:Ends),(∀σ H,b (i + 1) σ H->c.nx σ H)->(∀v H,D.rt v H->c.rt v H)->xs[i]? =some x->b i σ H->g x σ H λσ2 H2=>tb c σ2 H2) (hd:∀σ H,b xs.length σ H->D.nx σ H):
  ∃W:Nat->Nat->St->Hp->Prop,(∃m,W 0 m σ H)/\∀i m σ H,W i m σ H->
   ((Itl K a).stop i H/\D.nx σ H)\/((Itl K a).go i H/\∃N:St->Hp->Prop,(∀σ' H',N σ' H'->∃d,d < m/\W (i + 1) d σ' H')/\∀x H',(Itl K a).yld i H x H'->g x σ H' λσ2 H2=>tb {D with nx:=N,ct:=N,bk:=D.nx} σ2 H2):=
 z0B b h0 hl (λi x σ H hi p=>hs i x σ H _ (λ_ _ z=>z) (λ_ _ z=>z) hi p) hd
def zcF{I:St->Hp->Prop}{D:Ends}(h:∀a:Ends,(∀σ H,I σ H->a.nx σ H)->(∀v H,D.rt v H->a.rt v H)->tb a σ H):∃N:St->Hp->Prop,(∀σ' H',N σ' H'->I σ' H')/\tb {D with nx:=N,ct:=N,bk:=D.nx} σ H:=⟨I,λ_ _ z=>z,h _ (λ_ _ z=>z) (λ_ _ z=>z)⟩
def exJ{A:(St->Hp->Prop)->Prop}{B:St->Hp->Prop}(J:St->Hp->Prop)(h:∀a:St->Hp->Prop,(∀σ H,J σ H->a σ H)->A a)(k:∀σ H,J σ H->B σ H):∃J,A J/\∀σ H,J σ H->B σ H:=⟨J,h J λ_ _ z=>z,k⟩
theorem zaX:("(":Str).length=1:=by decide +kernel
theorem z8P:(")":Str).length=1:=by decide +kernel
theorem z1o:(" ":Str).length=1:=by decide +kernel
theorem zdm:("less":Str).length=4:=by decide +kernel
theorem zdx:("same":Str).length=4:=by decide +kernel
theorem zeo:("not":Str).length=3:=by decide +kernel
theorem zeX:("and":Str).length=3:=by decide +kernel
theorem zfn:("or":Str).length=2:=by decide +kernel
theorem zdk:("(pick ":Str).length=6:=by decide +kernel
theorem zdX:("(cols ":Str).length=6:=by decide +kernel
theorem zdO:("(sort ":Str).length=6:=by decide +kernel
theorem zcX:("(first ":Str).length=7:=by decide +kernel
theorem zei:("(both ":Str).length=6:=by decide +kernel
theorem zdJ:("(pair ":Str).length=6:=by decide +kernel
theorem zdG:("(join ":Str).length=6:=by decide +kernel
theorem zcM:("(group ":Str).length=7:=by decide +kernel
theorem zbX:("(pick (same ":Str).length=12:=by decide +kernel
theorem zfq:(") ":Str).length=2:=by decide +kernel
theorem l_n:("n":Str).length=1:=by decide +kernel
theorem l_s:("s":Str).length=1:=by decide +kernel
theorem zfx:(" n":Str).length=2:=by decide +kernel
theorem zfs:(" s":Str).length=2:=by decide +kernel
local macro_rules | `(tactic| walk_at "sl")=>`(tactic| (simp only [w16,zaX,z8P,z1o,zdm,zdx,zeo,zeX,zfn,zdk,zdX,zdO,zcX,zei,zdJ,zdG,zcM,zbX,zfq,l_n,l_s,zfx,zfs,PySem.sizeLine_eq];try lia))
theorem z8c:∀i∈nums,(toString i:Str).length<=31/\i.natAbs.log2 < 1920:=by decide +kernel
theorem z07:∀i∈z0k,(toString i:Str).length<=31/\i.natAbs.log2 < 1920:=by decide +kernel
theorem z18(hn:∀n∈hs,n.length<=10):∀{a:Side},Side.small hs a->(Side.txt a).length<=31
 | .nm s,h=>wW (hn s h) (by decide)
 | .nu i,h=>(z8c i h).1
theorem yX{hs:List Str}(hn:∀n∈hs,n.length<=10):∀{c:Cond},jB hs c->(yu c).length<=80 * c.size
 | .less a b,h=>by
  have h1:=z18 hn h.1;have h2:=z18 hn h.2;simp only [yu,ends,Cond.size]
  (walk_at "sl")
 | .same a b,h=>by
  have h1:=z18 hn h.1;have h2:=z18 hn h.2;simp only [yu,ends,Cond.size]
  (walk_at "sl")
 | .no c,h=>by
  have h1:=yX hn (c:=c) h;simp only [yu,Cond.size]
  (walk_at "sl")
 | .an c d,h=>by
  have h1:=yX hn (c:=c) h.1;have h2:=yX hn (c:=d) h.2;simp only [yu,Cond.size]
  (walk_at "sl")
 | .or c d,h=>by
  have h1:=yX hn (c:=c) h.1;have h2:=yX hn (c:=d) h.2;simp only [yu,Cond.size]
  (walk_at "sl")
theorem zcf:inV (.str "less") [.str "less",.str "same"]=true:=by decide +kernel
theorem zcs:inV (.str "same") [.str "less",.str "same"]=true:=by decide +kernel
theorem zdH:inV (.str "not") [.str "less",.str "same"]=false:=by decide +kernel
theorem ze8:inV (.str "and") [.str "less",.str "same"]=false:=by decide +kernel
theorem zf8:inV (.str "or") [.str "less",.str "same"]=false:=by decide +kernel
noncomputable def wordOf:Cond->Str
 | .less _ _=>"less"
 | .same _ _=>"same"
 | .no _=>"not"
 | .an _ _=>"and"
 | .or _ _=>"or"
noncomputable def subs:Cond->List Cond
 | .no c=> [c]
 | .an c d=> [c,d]
 | .or c d=> [c,d]
 | _=> []
structure Seen(hs:List Str)(H:Hp)(c:Cond)(v:V)(p:Addr)(xs:List V):Prop where
 e:v= .ref p
 h:H p=some (.tup (.str (wordOf c) :: xs))
 lf:inV (.str (wordOf c)) [.str "less",.str "same"]=c.leaf
 sd:c.leaf=true->∃a b,xs= [Side.v a,Side.v b]/\Side.small hs a/\Side.small hs b/\yu c="(" ++ wordOf c ++ " " ++ ends a b ++ ")"/\(c= .less a b\/c= .same a b)
 pt:c.leaf=false->xs.length=(subs c).length/\(∀(i:Nat) x,xs[i]? =some x->∃d,(subs c)[i]? =some d/\zG H d x/\d.size + 1<=c.size/\jB hs d)/\
  yu c="(" ++ wordOf c ++ " " ++ Str.join " " ((subs c).map yu) ++ ")"
theorem seen{v:V}(h:zG H c v)(f:jB hs c):∃p xs,Seen hs H c v p xs:=by
 cases c with
 | less a b=>
  obtain⟨p,rfl,h⟩:=h;exact⟨p,_,rfl,h,zcf,λ_=>⟨a,b,rfl,f.1,f.2,rfl,.inl rfl⟩,λz=>(by cases z)⟩
 | same a b=>
  obtain⟨p,rfl,h⟩:=h;exact⟨p,_,rfl,h,zcs,λ_=>⟨a,b,rfl,f.1,f.2,rfl,.inr rfl⟩,λz=>(by cases z)⟩
 | no c=>
  obtain⟨p,x,rfl,h,h1⟩:=h;refine⟨p,_,rfl,h,zdH,λz=>(by cases z),λ_=>⟨rfl,λi y e=> ?_,rfl⟩⟩
  match i,e with
  | 0,e=>cases e;exact⟨c,rfl,h1,wu _,f⟩
 | an c d=>
  obtain⟨p,x,y,rfl,h,h1,h2⟩:=h;refine⟨p,_,rfl,h,ze8,λz=>(by cases z),λ_=>⟨rfl,λi y e=> ?_,rfl⟩⟩
  match i,e with
  | 0,e=>cases e;exact⟨c,rfl,h1,by simp only [Cond.size];lia,f.1⟩
  | 1,e=>cases e;exact⟨d,rfl,h2,by simp only [Cond.size];lia,f.2⟩
 | or c d=>
  obtain⟨p,x,y,rfl,h,h1,h2⟩:=h;refine⟨p,_,rfl,h,zf8,λz=>(by cases z),λ_=>⟨rfl,λi y e=> ?_,rfl⟩⟩
  match i,e with
  | 0,e=>cases e;exact⟨c,rfl,h1,by simp only [Cond.size];lia,f.1⟩
  | 1,e=>cases e;exact⟨d,rfl,h2,by simp only [Cond.size];lia,f.2⟩
theorem z6S{a:Side}(b:Side.small hs a):zbs (Side.v a) (Side.txt a):=by
 cases a with
 | nm s=>exact .inr rfl
 | nu i=>exact .inl ⟨i,rfl,(z8c i b).2,rfl⟩
theorem z4C(x:V)(r:List V):z0H (x :: r) (some 1) none=r:=by
 unfold z0H;rw [show HT.sIx (x :: r).length 0 (some 1)=1 by unfold HT.sIx;simp];rw [HT.sIx_none,List.drop_succ_cons,w1a,wP,Nat.add_sub_cancel,qH]
theorem z4J{x:V}{r:List V}:¬(HT.sIx (x :: r).length 0 (some 1)=0/\HT.sIx (x :: r).length (x :: r).length none=(x :: r).length):=by
 rw [show HT.sIx (x :: r).length 0 (some 1)=1 by unfold HT.sIx;simp];rintro⟨z,_⟩;cases z
theorem z8f(c:Cond):(subs c).length<=2:=by cases c <;> simp [subs]
theorem zde(c:Cond):(((subs c).map yu).map (·.length)).sum + ((subs c).map yu).length * 1<=(Str.join " " ((subs c).map yu)).length + 1:=by
 cases c with
 | less a b=>simp [subs]
 | same a b=>simp [subs]
 | no c=>simp [subs,Str.join]
 | an c d=>
  simp only [subs,qK,w0W,Str.join,w16,z1o,Qa,QY,wP,Qo]
  lia
 | or c d=>
  simp only [subs,qK,w0W,Str.join,w16,z1o,Qa,QY,wP,Qo]
  lia
inductive spSpelt (K:W.Frag) (n:Nat) (vs:List V) (H:Hp) (Q:VK) (E:XK):Prop
 | mk:∀v hs c,vs= [v]->zG H c v->jB hs c->(∀n∈hs,n.length<=10)->c.size<=n->c.size<=1000->(∀H',zz H H'->Q (.str (yu c)) H')->spSpelt K n vs H Q E
theorem z0V:FnScope ["_law_condition","_law_ends","_law_parts"] ["_law_condition"] (zm ke):=by walk_at "s"
theorem z3H(F:Fun K "_law_spelt" "_law_spelt" ke f fd)(T:Txt K mg)(n:Nat)(e:Kn P w K mg base n "_law_spelt" ["_law_condition"] (spSpelt K n)):FnOk P w K mg base CX0 (n + 1) f fd ["_law_condition"] (spSpelt K (n + 1)):=by
 refine F.okB z0V (λvs H Q E h=> ?_) (λvs H Q E h=> ?_)
 ·obtain⟨v,hs,c,rfl,_⟩:=h
  rfl
 obtain⟨v,hs,c,rfl,hc,s,hn,hsz,O,q⟩:=h;obtain⟨p,xs,rfl,hp,lf,sd,pt⟩:=seen hc s;have wl:(wordOf c).length<=4:=by cases c <;> simp only [wordOf] <;> decide +kernel
 intro ad A outer N hr;refine⟨_,(zc (zC (yb yk (ixT v0 zd) (zw (zo zi (zo zi zb))) (by with_unfolding_all rfl))
   (zc (seT 1 z0V (zr zp (zr zp (jg z29 rfl T.str Q0 (zj (ixT v0 zd) zb)) zi) (jg z29 rfl T.str Q0 (zj (ixT v0 zd) zb))))
   (zg (zt (zr zp (zr zp (zr zp (zr zp zi (ixT v0 zd)) zi) v1) zi))))
   zu)
  (zc (jG (j:=2) rfl z0V.nd rfl (w02 rfl) (CompSc.of (sx:=zm ke) (NX:= ["_law_condition","_law_ends","_law_parts"]) (fr:= []) (ix:= []) rfl rfl (by decide +kernel)) (z3q (jc z14 v0 (jk zd) jx)) (λ_ _ _ _ _ _=>jZ) (λ_ _ _ _ _ _=>(zW e hr.m (zf v0 zb))))
  (zg (zt (zr zp (zr zp (zr zp (zr zp zi (ixT v0 zd)) zi) (z1z PySem.F.plainAttrs_str PySem.F.slot_str_join PySem.F.type_str_join z8B zi (zf v2 zb))) zi))))),?_⟩
 generalize hK0:K=K1
 revert K1
 refine jq (by walk_at "cl") ?_;refine⟨_,rfl,p,_,_,_,rfl,rfl,SqT.of hp,zF,(zq rfl),λlp y=> ?_⟩;have a1:=zJ y (.lst [V.str "less",V.str "same"]);have r:=a1 _ _ hp;refine⟨lp,_,rfl,.inl (SqL.of zl),rfl,(by rfl),_,rfl,?_⟩;dsimp -proj only;rw [wU wT,lf];cases bG:c.leaf with
 | true=>
  obtain⟨a,b,rfl,sa,o,es,_⟩:=sd bG;have la:=z18 hn sa;have lb:=z18 hn o;refine ifT rfl ?_;refine⟨_,rfl,p,_,_,_,rfl,rfl,SqT.of r,j6,_,_,rfl,z6S sa,_,_,rfl,rfl,by(walk_at "sl"),_,rfl,p,_,_,_,rfl,rfl,SqT.of r,jr,_,_,rfl,z6S o,_,_,rfl,rfl,by(walk_at "sl"),?_⟩;refine⟨_,rfl,p,_,_,_,rfl,rfl,SqT.of r,zF,_,_,rfl,rfl,by(walk_at "sl"),_,_,rfl,rfl,by(walk_at "sl"),_,rfl,_,_,rfl,rfl,by(walk_at "sl"),_,_,rfl,rfl,by(walk_at "sl"),?_⟩;have:=q _ a1;rw [es]at this;exact this
 | false=>
  obtain⟨hl,I,es⟩:=pt bG;refine ifF rfl ?_;have sl2:=z8f c;refine⟨_,rfl,_,rfl,p,_,rfl,SqT.of r,z4J,λcp C=> ?_⟩;rw [z4C];have a2:=a1.trans (zJ C (.tup xs));have t:upd (upd H lp (.lst [V.str "less",V.str "same"])) cp (.tup xs) cp=some (.tup xs):=zl;refine⟨cp,rfl,⟨_,SqT.of t⟩,?_⟩;refine z5x (xs:=xs) (λi ys H'=>zz (upd (upd H lp (.lst [V.str "less",V.str "same"])) cp (.tup xs)) H'/\ys=((subs c).take i).map λd=>V.str (yu d)) ⟨zz.refl _,rfl⟩ ?_ ?_ ?_
  ·rintro i ys H' hi ⟨l,rfl⟩;exact⟨SqT.of (l _ _ t),zK (by rw [w9,wX];lia)⟩
  ·rintro i x ys H' hi ⟨l,rfl⟩;obtain⟨d,hd,B,R,J⟩:=I i x hi;refine⟨_,rfl,x,hs,d,rfl,B.same (a2.trans l),J,hn,by lia,by lia,λM z=>⟨l.trans z,?_⟩⟩;rw [q5,hd,wK]
   rfl
  ·rintro ys H' ⟨l,rfl⟩ rp G;rw [hl,qH];have u:=a2.trans (l.trans (zJ G (.lst ((subs c).map λd=>V.str (yu d)))));have D:=u _ _ hp;have L:((subs c).map λd=>V.str (yu d))=((subs c).map yu).map V.str:=by rw [w11];rfl
   have o:=yX hn s;rw [es]at o;simp only [w16,zaX,z8P,z1o]at o;refine⟨_,rfl,p,_,_,_,rfl,rfl,SqT.of D,zF,_,_,rfl,rfl,by(walk_at "sl"),_,_,rfl,rfl,by(walk_at "sl"),rfl,_,rfl,_,_,(subs c).map yu,rfl,rfl,SqL.of (by rw [<-L];exact zl),?_,_,_,rfl,rfl,by(walk_at "sl"),_,_,rfl,rfl,by(walk_at "sl"),?_⟩
   ·have:=zde c;simp only [z1o]
    lia
   ·have:=q _ u;rw [es]at this;exact this
theorem z2m(F:Fun K "_law_spelt" "_law_spelt" ke f fd)(T:Txt K mg)(a:∀k sp,FnOk P w K mg base CX0 k f fd ["_law_condition"] sp->Kn P w K mg base k "_law_spelt" ["_law_condition"] sp):∀n,FnOk P w K mg base CX0 n f fd ["_law_condition"] (spSpelt K n)
 | 0=>⟨λvs H Q E h=>by obtain⟨v,hs,c,rfl,_⟩:=h;rfl,λA outer s H args us vs Q E hr e b d h=>by
  obtain⟨v,hs,c,_,_,_,_,hz,_⟩:=h;have:=c.size_pos
  lia⟩
 | n + 1=>z3H F T n (a n _ (z2m F T a n))
inductive spTrue (K:W.Frag) (n:Nat) (vs:List V) (H:Hp) (Q:VK) (E:XK):Prop
 | mk:∀v hp rp hs (rs:List Int) c,vs= [v,.ref hp,.ref rp]->zG H c v->jB hs c->H hp=some (.lst (hs.map V.str))->H rp=some (.lst (rs.map V.int))->rs.length=hs.length->c.size<=n->(∀H',zz H H'->Q (.bl (ev hs rs c)) H')->spTrue K n vs H Q E
theorem zc7:decide (V.str "same"=V.str "less")=false:=by decide +kernel
theorem zcE:decide (V.str "and"=V.str "not")=false:=by decide +kernel
theorem zcl:decide (V.str "or"=V.str "not")=false:=by decide +kernel
theorem zeH:decide (V.str "and"=V.str "or")=false:=by decide +kernel
theorem ko:FnScope ["_law_condition","_law_heads","_law_row","_law_word","_law_sides","_law_part","_law_told"] ["_law_condition","_law_heads","_law_row"] (zm z08):=by walk_at "s"
theorem z4d(F:Fun K "_law_true" "_law_true" z08 f fd)(T:Txt K mg)(n:Nat)(e:Kn P w K mg base n "_law_true" ["_law_condition","_law_heads","_law_row"] (spTrue K n)):FnOk P w K mg base CX0 (n + 1) f fd ["_law_condition","_law_heads","_law_row"] (spTrue K (n + 1)):=by
 refine F.okB ko (λvs H Q E h=> ?_) (λvs H Q E h=> ?_)
 ·obtain⟨v,hp,rp,hs,rs,c,rfl,_⟩:=h
  rfl
 obtain⟨v,hp,rp,hs,rs,c,rfl,hc,sm,B,U,L,hsz,q⟩:=h;obtain⟨p,xs,rfl,J,lf,sd,pt⟩:=seen hc sm;intro ad A outer sh hr;refine⟨_,(zc (seT 3 ko (ixT v0 zd))
  (zc (zC (yb yk v3 (zw (zo zi (zo zi zb))) (by with_unfolding_all rfl))
   (zc (seT 4 ko (zw zb))
   (zc (foR (z3q (jc z14 v0 (jk zd) jx)) (gnM 5 ko)
    (zg (zC (zY (zR zS rfl T.isinstance wO (zf v5 (zf (jQ (v:= .ty "str") rfl T.str Q0 rfl) zb))))
     (zg (jh (apP v4 (zj (ixL v2 (z1z qB Qf Qu z0D v1 (zf v5 zb))) zb))))
     (zg (jh (apP v4 (zf v5 zb)))))))
   (zc (zC (cmT zM v3 zi)
    (zg (zt (cmE z6U (ixL v4 zd) (ixL v4 zd))))
    zu)
   (zg (zt (cmE zM (ixL v4 zd) (ixL v4 zd)))))))
   zu)
  (zc (jG (j:=6) rfl ko.nd rfl (w02 rfl) (CompSc.of (sx:=zm z08) (NX:= ["_law_condition","_law_heads","_law_row","_law_word","_law_sides","_law_part","_law_told"]) (fr:= ["_law_heads","_law_row"]) (ix:= [1,2]) rfl rfl (by decide +kernel)) (z3q (jc z14 v0 (jk zd) jx)) (λ_ _ _ _ _ _=>jZ) (λ_ _ _ _ _ _=>(zW e hr.m (zf v0 (zf v1 (zf v2 zb))))))
  (zc (zC (cmT zM v3 zi)
   (zg (zt (zbE (ixL (pv 6) zd))))
   zu)
  (zc (zC (cmT zM v3 zi)
   (zg (zt (z3X yk jD (pv 6) (by with_unfolding_all rfl))))
   zu)
  (zg (zt (z3X yr jD (pv 6) (by with_unfolding_all rfl))))))))),?_⟩
 generalize hK0:K=K1
 revert K1
 refine jq (by walk_at "cl") ?_;refine !(zh J zF ?_);refine !⟨(zq rfl),λlp ai=> ?_⟩;have a1:=zJ ai (.lst [V.str "less",V.str "same"]);refine⟨lp,!⟨.inl (SqL.of zl),rfl,(by rfl),!?_⟩⟩;generalize upd H lp (.lst [V.str "less",V.str "same"])=H1 at a1 ⊢;have S:=a1 _ _ J;have gM:=a1 _ _ B;have eP:=a1 _ _ U;rw [wU wT,lf];cases bG:c.leaf with
 | true=>
  obtain⟨a,b,rfl,sa,sb,_,cZ⟩:=sd bG;refine ifT rfl ?_;refine⟨(zq rfl),λsp M=> ?_⟩;have b1:=zJ M (.lst []);have bX:=b1 _ _ S;refine !(!⟨p,!⟨SqT.of bX,z4J,λcp z=> ?_⟩⟩);rw [z4C];have b2:=b1.trans (zJ z (.tup [Side.v a,Side.v b]));have G:cp≠sp:=(zy zl z).symm;have R:upd (upd H1 sp (.lst [])) cp (.tup [Side.v a,Side.v b]) sp=some (.lst []):=by rw [zn G.symm];exact zl
  have o:upd (upd H1 sp (.lst [])) cp (.tup [Side.v a,Side.v b]) cp=some (.tup [Side.v a,Side.v b]):=zl;generalize upd (upd H1 sp (.lst [])) cp (.tup [Side.v a,Side.v b])=H2 at b2 R o ⊢;refine⟨cp,rfl,⟨_,SqT.of o⟩,z61 (K:=K) (a:=cp) (xs:= [Side.v a,Side.v b]) (λi σ H'=>∃y:Option V,σ= [some (.ref p),some (.ref hp),some (.ref rp),some (.str (wordOf c)),some (.ref sp),y,none]/\zz H1 H'/\H' cp=some (.tup [Side.v a,Side.v b])/\H' sp=some (.lst (([num hs rs a,num hs rs b].take i).map V.int)))
   ⟨none,rfl,b2,o,R⟩ (λi σ H' _ ⟨_,_,_,h,_⟩=>SqT.of h) ?_ ?_⟩
  ·rintro i x σ H' hi ⟨y,rfl,s',X,l⟩;have key:∃d:Side,x=Side.v d/\Side.small hs d/\ [num hs rs a,num hs rs b].take (i + 1)= [num hs rs a,num hs rs b].take i ++ [num hs rs d]:=by
    match i,hi with
    | 0,hi=>cases hi;exact⟨a,rfl,sa,rfl⟩
    | 1,hi=>cases hi;exact⟨b,rfl,sb,rfl⟩
   obtain⟨d,rfl,C,et⟩:=key;have N:=s' _ _ gM;have ck:=s' _ _ eP;have fin:∃y:Option V,([some (.ref p),some (.ref hp),some (.ref rp),some (.str (wordOf c)),some (.ref sp),some (Side.v d),none]:List (Option V))= [some (.ref p),some (.ref hp),some (.ref rp),some (.str (wordOf c)),some (.ref sp),y,none]/\zz H1 (upd H' sp (.lst ((([num hs rs a,num hs rs b].take i).map V.int) ++ [V.int (num hs rs d)])))/\
     upd H' sp (.lst ((([num hs rs a,num hs rs b].take i).map V.int) ++ [V.int (num hs rs d)])) cp=some (.tup [Side.v a,Side.v b])/\upd H' sp (.lst ((([num hs rs a,num hs rs b].take i).map V.int) ++ [V.int (num hs rs d)])) sp=some (.lst (([num hs rs a,num hs rs b].take (i + 1)).map V.int)):=
    (!⟨s'.put M,by rw [zn G];exact X,by rw [zl,et,wK];rfl⟩)
   have I:((([num hs rs a,num hs rs b].take i).map V.int)).length < sizeLine:=zK (by rw [w9,wX];simp only [wP,Qo];lia);cases d with
   | nm s=>
    refine !⟨_,_,_,!⟨TyOf.str s,jC,!?_⟩⟩;refine ifT rfl ?_;have bU:hs.idxOf s < rs.length:=by rw [L];exact qX.mpr C
    have D:=yS C;refine !⟨.inl ⟨rfl,_,SqL.of l⟩,!(!⟨.inl ⟨rfl,_,SqL.of N⟩,!⟨hp,_,_,hs.idxOf s,rfl,rfl,SqL.of N,rfl,jo hs,D.1,D.2,zx ck (zN (int_at bU)) ⟨sp,ex2 rfl rfl ⟨l,I,?_⟩⟩⟩⟩)⟩;exact fin
   | nu k=>
    refine !⟨_,_,_,!⟨TyOf.int k,z09,!?_⟩⟩;refine ifF rfl ?_;refine !⟨.inl ⟨rfl,_,SqL.of l⟩,!⟨sp,ex2 rfl rfl ⟨l,I,?_⟩⟩⟩;exact fin
  ·rintro σ H' ⟨y,rfl,s',X,l⟩;refine !⟨rfl,!?_⟩;have r:=q _ (a1.trans s');rcases cZ with rfl | rfl
   ·refine ifT rfl ?_;exact !(zx l zF (!(zx l j6 (ex2 rfl rfl r))))
   ·refine ifF zc7 ?_;exact !(zx l zF (!(zx l j6 ⟨rfl,qbl z46 r⟩)))
 | false=>
  obtain⟨hl,oj,es⟩:=pt bG;refine ifF rfl ?_;have sl2:=z8f c;refine !(!⟨p,!⟨SqT.of S,z4J,λcp z=> ?_⟩⟩);rw [z4C];have a2:=zJ z (.tup xs);have o:upd H1 cp (.tup xs) cp=some (.tup xs):=zl;generalize upd H1 cp (.tup xs)=H2 at a2 o ⊢;refine⟨cp,rfl,⟨_,SqT.of o⟩,?_⟩;refine z5x (xs:=xs) (λi ys H'=>zz H2 H'/\ys=((subs c).take i).map λd=>V.bl (ev hs rs d)) ⟨zz.refl _,rfl⟩ ?_ ?_ ?_
  ·rintro i ys H' hi ⟨u,rfl⟩;exact⟨SqT.of (u _ _ o),zK (by rw [w9,wX];lia)⟩
  ·rintro i x ys H' hi ⟨u,rfl⟩;obtain⟨d,hd,Y,ol,om⟩:=oj i x hi;have t:=a1.trans (a2.trans u);refine !(!(!⟨x,hp,rp,hs,rs,d,rfl,Y.same t,om,t _ _ B,t _ _ U,L,by lia,λH3 s3=>⟨u.trans s3,?_⟩⟩));rw [q5,hd,wK]
   rfl
  ·rintro ys H' ⟨u,rfl⟩ tp Z;rw [hl,qH];have a3:=a1.trans (a2.trans (u.trans (zJ Z (.lst ((subs c).map λd=>V.bl (ev hs rs d))))));have r:=q _ a3;have O:((subs c).map λd=>V.bl (ev hs rs d)).all yY=true:=by
    rw [List.all_map,qQ];intro d _
    rfl
   refine !⟨rfl,!?_⟩;cases c with
   | less a b=>cases bG
   | same a b=>cases bG
   | no c=>
    refine ifT rfl ?_;exact !(zx zl zF (!r))
   | an c d=>
    refine ifF zcE ?_;refine !⟨rfl,!?_⟩;refine ifF zeH ?_;refine !⟨tp,!⟨.inl (SqL.of zl),rfl,O,qbl ?_ r⟩⟩
    show(not (inV (V.bl false) [V.bl (ev hs rs c),V.bl (ev hs rs d)]))=(ev hs rs c && ev hs rs d)
    cases ev hs rs c <;> cases ev hs rs d <;> rfl
   | or c d=>
    refine ifF zcl ?_;refine !⟨rfl,!?_⟩;refine ifT rfl ?_;refine !⟨tp,!⟨.inl (SqL.of zl),rfl,O,qbl ?_ r⟩⟩
    show inV (V.bl true) [V.bl (ev hs rs c),V.bl (ev hs rs d)]=(ev hs rs c || ev hs rs d)
    cases ev hs rs c <;> cases ev hs rs d <;> rfl
theorem z2Z(F:Fun K "_law_true" "_law_true" z08 f fd)(T:Txt K mg)(a:∀k sp,FnOk P w K mg base CX0 k f fd ["_law_condition","_law_heads","_law_row"] sp->Kn P w K mg base k "_law_true" ["_law_condition","_law_heads","_law_row"] sp):∀n,FnOk P w K mg base CX0 n f fd ["_law_condition","_law_heads","_law_row"] (spTrue K n)
 | 0=>⟨λvs H Q E h=>by obtain⟨v,hp,rp,hs,rs,c,rfl,_⟩:=h;rfl,λA outer s H args us vs Q E hr e b d h=>by
  obtain⟨v,hp,rp,hs,rs,c,_,_,_,_,_,_,hz,_⟩:=h;have:=c.size_pos
  lia⟩
 | n + 1=>z4d F T n (a n _ (z2Z F T a n))
theorem z7N{xs:List α}{i:Int}(h0:0<=i)(h1:i < (xs.length:Int)):∃(h:i.toNat < xs.length),atI xs i=some xs[i.toNat]:=by
 have h:i.toNat < xs.length:=by lia
 exact⟨h,zcR h0 (we h)⟩
theorem z1n{i n:Int}(h:0 < n):0<=i % n/\i % n < n:=⟨Int.emod_nonneg _ (by lia),Int.emod_lt_of_pos _ h⟩
theorem zef{i:Int}(h0:0<=i)(h1:i < 6):∃m∈nums,atI (nums.map V.int) i=some (.int m):=by
 obtain⟨h,e⟩:=z7N (xs:=nums.map V.int) h0 (by show i < 6;exact h1);refine⟨nums[i.toNat]'(by simpa using h),wI _,?_⟩;rw [e,List.getElem_map]
theorem z1r{i:Int}(c:hs≠ []):∃s∈hs,atI (hs.map V.str) (i % (((hs.map V.str).length:Nat):Int))=some (.str s):=by
 have hl:0 < hs.length:=QU.mpr c;have hm:(0:Int) < (((hs.map V.str).length:Nat):Int):=by rw [w9];lia
 obtain⟨a,b⟩:=z1n (i:=i) hm;obtain⟨h,e⟩:=z7N (xs:=hs.map V.str) a b;refine⟨hs[(i % (((hs.map V.str).length:Nat):Int)).toNat]'(by simpa using h),wI _,?_⟩;rw [e,List.getElem_map]
inductive spAsking (K:W.Frag) (vs:List V) (H:Hp) (Q:VK) (E:XK):Prop
 | mk:∀hp a9 (hs:List Str),vs= [.ref hp,.int a9]->H hp=some (.lst (hs.map V.str))->hs≠ []->(∀(v:V) (c:Cond) (H':Hp),zz H H'->zG H' c v->jB hs c->c.size<=5->Q v H')->spAsking K vs H Q E
theorem jd:FnScope ["_law_heads","_law_seed","_law_one","_law_other","_law_number","_law_first","_law_second","_law_menu"] ["_law_heads","_law_seed"] (zm z0S):=by walk_at "s"
theorem z4r(F:Fun K "_law_asking" "_law_asking" z0S f fd)(T:Txt K mg):FnOk P w K mg base CX0 1 f fd ["_law_heads","_law_seed"] (spAsking K):=by
 refine F.okB jd (λvs H Q E h=> ?_) (λvs H Q E h=> ?_)
 ·obtain⟨hp,a9,hs,rfl,_⟩:=h
  rfl
 obtain⟨hp,a9,hs,rfl,hh,ao,q⟩:=h;have hlen:(0:Int) < (((hs.map V.str).length:Nat):Int):=by
  have:=QU.mpr ao;rw [w9];lia
 have tl:∀(x:Nat),x<=20->x<=sizeLine:=λx h=>je (by lia)
 obtain⟨one,m1,e1⟩:=z1r (i:=a9) ao;obtain⟨other,m2,e2⟩:=z1r (i:=a9 / 3 + 1) ao;obtain⟨num,m3,e3⟩:=zef (z1n (i:=a9 / 2) (n:=6) (by decide)).1 (z1n (i:=a9 / 2) (n:=6) (by decide)).2;intro ad A outer sh hr;refine⟨_,(zc (seT 2 jd (ixL v0 (zr zZ v1 (leN T.len (zf v0 zb)))))
  (zc (seT 3 jd (ixL v0 (zr zZ (zr kG (zr yn v1 zd) zd) (leN T.len (zf v0 zb)))))
  (zc (seT 4 jd (ixL (zw (zo zd (zo zd (zc5 (z0z yU zd) (zo zd (yy (z40 ⟨by decide,by decide,by decide⟩) (zo zd zb))))))) (zr zZ (zr yn v1 zd) zd)))
  (zc (seT 5 jd (zB (zo zi (zf v2 (zf v4 zb)))))
  (zc (seT 6 jd (zB (zo zi (zf v2 (zf v3 zb)))))
  (zc (seT 7 jd (zw (zf v5 (zf (pv 6) (zH (zB (zo zi (zH (zB (zo zi (zf v3 (zf v4 zb)))) (zH (zB (zo zi (zf v5 zb))) zb)))) zb)))))
  (zc (seT 7 jd (zr kH (pv 7) (zw (zH (zB (zo zi (zf v5 (zf (pv 6) zb)))) (zH (zB (zo zi (zH (zB (zo zi (zf v4 (zf v3 zb)))) zb))) zb)))))
  (zc (seT 7 jd (zr kH (pv 7) (zw (zH (zB (zo zi (zH (zB (zo zi (zf v2 (zf v3 zb)))) (zH (zB (zo zi (zf (pv 6) (zf v5 zb)))) zb)))) zb))))
  (zc (seT 7 jd (zr kH (pv 7) (zw (zH (zB (zo zi (zf v4 (zo zd zb)))) (zf (pv 6) (zH (zB (zo zi (zf (pv 6) (zf v5 zb)))) zb))))))
  (zg (zt (ixL (pv 7) (zr zZ (zr yn v1 zd) zd))))))))))))),?_⟩
 generalize hK0:K=K1
 revert K1
 refine jq (by walk_at "cl") ?_;refine !(!(!⟨hp,!⟨.inl (SqL.of hh),_,!⟨rfl,hlen,zx hh e1 ?_⟩⟩⟩));refine !(!⟨_,!⟨rfl,⟨by decide,by decide⟩,_,!⟨rfl,!⟨hp,!⟨.inl (SqL.of hh),_,!⟨rfl,hlen,zx hh e2 ?_⟩⟩⟩⟩⟩⟩);refine !⟨tl 6 (by decide),λl0 f0=> ?_⟩;refine ze (upd _ l0 _) rfl f0 λH0 n0 x0=> ?_
 replace x0:H0 l0=some (.lst (nums.map V.int)):=x0;refine !⟨_,!⟨rfl,⟨by decide,by decide⟩,_,!⟨rfl,(by show(0:Int) < 6;decide),l0,nums.map V.int,_,!⟨rfl,SqL.of x0,e3,?_⟩⟩⟩⟩;refine !(!⟨tl _ (by simp),λpF f1=> ?_⟩);refine ze (upd _ pF _) rfl f1 λH1 n1 x1=> ?_
 refine !(!⟨tl _ (by simp),λpS f2=> ?_⟩);refine ze (upd _ pS _) rfl f2 λH2 n2 x2=> ?_
 refine !(!(!(!⟨tl _ (by simp),λp3 f3=> ?_⟩)));refine ze (upd _ p3 _) rfl f3 λH3 n3 x3=> ?_
 refine !⟨tl _ (by simp),λp4 f4=> ?_⟩;refine ze (upd _ p4 _) rfl f4 λH4 n4 x4=> ?_
 refine⟨tl _ (by simp),λp5 f5=> ?_⟩;refine ze (upd _ p5 _) rfl f5 λH5 J x5=> ?_
 refine⟨tl _ (by simp),λl6 f6=> ?_⟩;refine ze (upd _ l6 _) rfl f6 λH6 C x6=> ?_
 refine !(!(!⟨tl _ (by simp),λp7 f7=> ?_⟩));refine ze (upd _ p7 _) rfl f7 λH7 B x7=> ?_
 refine !(!⟨tl _ (by simp),λp8 f8=> ?_⟩);refine ze (upd _ p8 _) rfl f8 λH8 y x8=> ?_
 refine⟨tl _ (by simp),λp9 f9=> ?_⟩;refine ze (upd _ p9 _) rfl f9 λH9 u x9=> ?_
 refine⟨tl _ (by simp),λS iB=> ?_⟩;refine ze (upd _ S _) rfl iB λay r dy=> ?_
 refine⟨l6,S,_,!⟨rfl,(r _ _ (u _ _ (y _ _ (B _ _ x6)))),dy,tl _ (by simp),λR oo=> ?_⟩⟩;refine ze (upd _ R _) rfl oo λaF s Y=> ?_
 refine !(!(!⟨tl _ (by simp),λap oq=> ?_⟩));refine ze (upd _ ap _) rfl oq λaA n12 ak=> ?_
 refine !(!⟨tl _ (by simp),λae ot=> ?_⟩);refine ze (upd _ ae _) rfl ot λaH p as=> ?_
 refine⟨tl _ (by simp),λac ou=> ?_⟩;refine ze (upd _ ac _) rfl ou λaE o au=> ?_
 refine⟨tl _ (by simp),λZ ow=> ?_⟩;refine ze (upd _ Z _) rfl ow λaz j M=> ?_
 refine⟨R,Z,_,!⟨rfl,(j _ _ (o _ _ (p _ _ (n12 _ _ Y)))),M,tl _ (by simp),λD oz=> ?_⟩⟩;refine ze (upd _ D _) rfl oz λaB l G=> ?_
 refine !(!⟨tl _ (by simp),λav oA=> ?_⟩);refine ze (upd _ av _) rfl oA λaC e aq=> ?_
 refine !(!(!⟨tl _ (by simp),λai oB=> ?_⟩));refine ze (upd _ ai _) rfl oB λaG d ax=> ?_
 refine⟨tl _ (by simp),λO oC=> ?_⟩;refine ze (upd _ O _) rfl oC λaD b N=> ?_
 refine⟨D,O,_,!⟨rfl,(b _ _ (d _ _ (e _ _ G))),N,tl _ (by simp),λag oE=> ?_⟩⟩;refine ze (upd _ ag _) rfl oE λX a c=> ?_
 have y1:=(a _ _ (b _ _ (d _ _ (e _ _ (l _ _ (j _ _ (o _ _ (p _ _ (n12 _ _ (s _ _ (r _ _ (u _ _ (y _ _ (B _ _ (C _ _ (J _ _ (n4 _ _ (n3 _ _ (n2 _ _ x1)))))))))))))))))));have y2:=(a _ _ (b _ _ (d _ _ (e _ _ (l _ _ (j _ _ (o _ _ (p _ _ (n12 _ _ (s _ _ (r _ _ (u _ _ (y _ _ (B _ _ (C _ _ (J _ _ (n4 _ _ (n3 _ _ x2))))))))))))))))));have y3:=(a _ _ (b _ _ (d _ _ (e _ _ (l _ _ (j _ _ (o _ _ (p _ _ (n12 _ _ (s _ _ (r _ _ (u _ _ (y _ _ (B _ _ (C _ _ (J _ _ (n4 _ _ x3)))))))))))))))));have y4:=(a _ _ (b _ _ (d _ _ (e _ _ (l _ _ (j _ _ (o _ _ (p _ _ (n12 _ _ (s _ _ (r _ _ (u _ _ (y _ _ (B _ _ (C _ _ (J _ _ x4))))))))))))))));have y5:=(a _ _ (b _ _ (d _ _ (e _ _ (l _ _ (j _ _ (o _ _ (p _ _ (n12 _ _ (s _ _ (r _ _ (u _ _ (y _ _ (B _ _ (C _ _ x5)))))))))))))));have y6:=(a _ _ (b _ _ (d _ _ (e _ _ (l _ _ (j _ _ (o _ _ (p _ _ (n12 _ _ (s _ _ (r _ _ (u _ _ (y _ _ (B _ _ x6))))))))))))));have y7:=(a _ _ (b _ _ (d _ _ (e _ _ (l _ _ (j _ _ (o _ _ (p _ _ (n12 _ _ (s _ _ (r _ _ (u _ _ (y _ _ x7)))))))))))));have y8:=(a _ _ (b _ _ (d _ _ (e _ _ (l _ _ (j _ _ (o _ _ (p _ _ (n12 _ _ (s _ _ (r _ _ (u _ _ x8))))))))))));have y9:=(a _ _ (b _ _ (d _ _ (e _ _ (l _ _ (j _ _ (o _ _ (p _ _ (n12 _ _ (s _ _ (r _ _ x9)))))))))));have sJ:=(a _ _ (b _ _ (d _ _ (e _ _ (l _ _ (j _ _ (o _ _ (p _ _ (n12 _ _ (s _ _ dy))))))))));have Dk:=(a _ _ (b _ _ (d _ _ (e _ _ (l _ _ (j _ _ (o _ _ (p _ _ (n12 _ _ Y)))))))));have vV:=(a _ _ (b _ _ (d _ _ (e _ _ (l _ _ (j _ _ (o _ _ (p _ _ ak))))))));have oF:=(a _ _ (b _ _ (d _ _ (e _ _ (l _ _ (j _ _ (o _ _ as)))))));have oG:=(a _ _ (b _ _ (d _ _ (e _ _ (l _ _ (j _ _ au))))));have Dl:=(a _ _ (b _ _ (d _ _ (e _ _ (l _ _ M)))));have Dm:=(a _ _ (b _ _ (d _ _ (e _ _ G))));have vW:=(a _ _ (b _ _ (d _ _ aq)));have vX:=(a _ _ (b _ _ ax));have Do:=(a _ _ N);have z:=n0.trans (n1.trans (n2.trans (n3.trans (n4.trans (J.trans (C.trans (B.trans (y.trans (u.trans (r.trans (s.trans (n12.trans (p.trans (o.trans (j.trans (l.trans (e.trans (d.trans (b.trans (a))))))))))))))))))));have I:zG X (.less (.nm one) (.nu num)) (.ref pF):=⟨pF,rfl,y1⟩;have U:zG X (.same (.nm one) (.nm other)) (.ref pS):=⟨pS,rfl,y2⟩;have L:jB hs (.less (.nm one) (.nu num)):=⟨m1,m3⟩;have okS:jB hs (.same (.nm one) (.nm other)):=⟨m1,m2⟩;have oH:(1:Int)∈nums:=by decide +kernel
 obtain⟨i0,i1⟩:=z1n (i:=a9 / 5) (n:=9) (by decide);refine !(!⟨_,!⟨rfl,⟨by decide,by decide⟩,_,!⟨rfl,(by show(0:Int) < 9;decide),?_⟩⟩⟩);obtain⟨ix,t⟩:∃ix,a9 / 5 % 9=ix:=⟨_,rfl⟩
 rw [t]at i0 i1;have fV:ix=0\/ix=1\/ix=2\/ix=3\/ix=4\/ix=5\/ix=6\/ix=7\/ix=8:=by lia
 rcases fV with rfl | rfl | rfl | rfl | rfl | rfl | rfl | rfl | rfl
 ·exact zx c (by show atI _ (a9 / 5 % 9)=_;rw [t];rfl) (q _ _ _ z I L (by simp [Cond.size]))
 ·exact zx c (by show atI _ (a9 / 5 % 9)=_;rw [t];rfl) (q _ _ _ z U okS (by simp [Cond.size]))
 ·exact zx c (by show atI _ (a9 / 5 % 9)=_;rw [t];rfl) (q _ (.an (.same (.nm other) (.nu num)) (.no (.less (.nm one) (.nu num)))) _ z ⟨_,_,!⟨y5,(!y3),⟨_,!⟨y4,I⟩⟩⟩⟩ ⟨⟨m2,m3⟩,L⟩ (by simp only [Cond.size];decide))
 ·exact zx c (by show atI _ (a9 / 5 % 9)=_;rw [t];rfl) (q _ (.or (.less (.nm one) (.nu num)) (.same (.nm one) (.nm other))) _ z ⟨_,_,!⟨y7,I,U⟩⟩ ⟨L,okS⟩ (by simp only [Cond.size];decide))
 ·exact zx c (by show atI _ (a9 / 5 % 9)=_;rw [t];rfl) (q _ (.no (.less (.nu num) (.nm other))) _ z ⟨_,!⟨y9,(!y8)⟩⟩ ⟨m3,m2⟩ (by simp only [Cond.size];decide))
 ·exact zx c (by show atI _ (a9 / 5 % 9)=_;rw [t];rfl) (q _ (.an (.less (.nm one) (.nm other)) (.or (.same (.nm one) (.nm other)) (.less (.nm one) (.nu num)))) _ z ⟨_,_,!⟨oG,(!vV),⟨_,_,!⟨oF,U,I⟩⟩⟩⟩ ⟨⟨m1,m2⟩,okS,L⟩ (by simp only [Cond.size];decide))
 ·exact zx c (by show atI _ (a9 / 5 % 9)=_;rw [t];rfl) (q _ (.same (.nu num) (.nu 1)) _ z (!vW) ⟨m3,oH⟩ (by simp only [Cond.size];decide))
 ·exact zx c (by show atI _ (a9 / 5 % 9)=_;rw [t];rfl) (q _ _ _ z U okS (by simp [Cond.size]))
 ·exact zx c (by show atI _ (a9 / 5 % 9)=_;rw [t];rfl) (q _ (.an (.same (.nm one) (.nm other)) (.less (.nm one) (.nu num))) _ z ⟨_,_,!⟨vX,U,I⟩⟩ ⟨okS,L⟩ (by simp only [Cond.size];decide))
def z0a{fs:List (Addr×List Int)}(a:H np=none)(n:zz H H')(x:H' np=some (.lst (refs fs)))(hm:∀r∈fs,H r.1=some (.lst (r.2.map V.int))):RowsAt H' np fs:=
 ⟨x,λr m=>⟨zy (hm r m) a,n _ _ (hm r m)⟩⟩
def z1L{x y z u:α}{r:List α}:atI (x :: y :: z :: u :: r) 3=some u:=zN (j:=3) rfl
theorem z1X(f:α->Bool)(xs:List α){x:α}(h:xs[i]? =some x):(xs.take (i + 1)).filter f=(xs.take i).filter f ++ (if f x=true then [x]else []):=by
 rw [q5,h,w0w]
 congr 1
 show List.filter f [x]=_
 rw [List.filter_cons]
 rfl
theorem za7(rs:List (Addr×List Int)):(rs.filter λr=>ev hs r.2 c).map (·.2)=(rs.map (·.2)).filter λr=>ev hs r c:=by
 rw [w0o]
 rfl
inductive spPicked (K:W.Frag) (vs:List V) (H:Hp) (Q:VK) (E:XK):Prop
 | mk:∀th tr q v a9,vs= [v,.int a9]->TabOk th tr->kE th tr H v q->okQ th q->(zD q).length<=4000000->(rowsOf th tr q).length<=100000->(∀(v':V) (c:Cond) (H':Hp),zz H H'->kE th tr H' v' (.pick c q)->jB (za th q) c->c.size<=6->Q v' H')->spPicked K vs H Q E
theorem yi:FnScope ["_law_state","_law_seed","_law_condition","_law_rows","_law_line"] ["_law_state","_law_seed"] (zm kX):=by walk_at "s"
theorem z4o(F:Fun K "_law_picked" "_law_picked" kX f fd)(T:Txt K mg)(a:Kn P w K mg base 1 "_law_asking" ["_law_heads","_law_seed"] (spAsking K))(d:Kn P w K mg base 7 "_law_true" ["_law_condition","_law_heads","_law_row"] (spTrue K 7))(b:Kn P w K mg base 7 "_law_spelt" ["_law_condition"] (spSpelt K 7)):
  FnOk P w K mg base CX0 8 f fd ["_law_state","_law_seed"] (spPicked K):=by
 refine F.okB yi (λvs H Q E h=> ?_) (λvs H Q E h=> ?_)
 ·obtain⟨th,tr,q,v,a9,rfl,_⟩:=h
  rfl
 obtain⟨th,tr,q,v,a9,rfl,TT,aK,hok,fW,bK,fin⟩:=h;obtain⟨p,qv,hp,rp,rs,rfl,h1,h2,L,G,u⟩:=aK;obtain⟨ao,mG⟩:=jA TT hok;have cq:=j8 TT hok;have bo:(refs rs).length=rs.length:=w9 _;have dZ:rs.length<=100000:=by rw [<-u,w9]at bK;exact bK
 intro ad A outer sh hr;have hu:=z1x hr;refine⟨_,(zc (kf (i:=2) yi.nd rfl (QO rfl) (zW a hr.m (zj (ixT v0 zd) (zf v1 zb))))
  (zc (jG (j:=3) rfl yi.nd rfl (w02 rfl) (CompSc.of (sx:=zm kX) (NX:= ["_law_state","_law_seed","_law_condition","_law_rows","_law_line"]) (fr:= ["_law_condition","_law_state"]) (ix:= [2,0]) rfl rfl (by decide +kernel)) (jb (ixT v0 zd)) (λ_ _ _ _ _ _=>(z0s (zY (zW d hr.m (zf v1 (zj (yD (kc (K:=K) rfl) v2 zd (λ_ _=>rfl)) (zf v0 zb))))))) (λ_ _ _ _ _ _=>v0))
  (zc (z0f (z5T (cmT (z1M hu) v3 (zw zb)) (cmT z8a (zr zZ v1 zd) zd))
   (zc (kf (i:=2) yi.nd rfl (QO rfl) (zB (zo zi (zf v2 zb))))
   (zg (seT 3 yi (jg yo rfl T.list qR (zj (ixT v0 zd) zb)))))
   zu)
  (zc (seT 4 yi (zr zp (zr zp (zr zp (zr zp zi (zW b hr.m (zf v2 zb))) zi) (ixT v0 zd)) zi))
  (zg (zt (zB (zH (zB (zo zi (zf v2 (zj (ixT v0 zd) zb)))) (zf v4 (zj (ixT v0 zd) (zf v3 zb))))))))))),?_⟩
 generalize hK0:K=K1
 revert K1
 refine jq (by walk_at "cl") ?_;refine !(zh h1 jr (!⟨hp,a9,za th q,rfl,L,ao,λcv c H1 s1 hc U sz=> ?_⟩));have g1:=s1 _ _ h1;have C:=G.same s1;refine !(zh g1 z1L ⟨rp,rfl,⟨_,SqL.of C.1⟩,?_⟩);refine kI (xs:=refs rs) (λi ys H'=>zz H1 H'/\ys=refs ((rs.take i).filter λr=>ev (za th q) r.2 c)) ⟨zz.refl _,rfl⟩ ?_ ?_ ?_
 ·rintro i ys H' hi ⟨e,rfl⟩;refine⟨SqL.of (e _ _ C.1),zK ?_⟩;have:=qE (λr:Addr×List Int=>ev (za th q) r.2 c) (rs.take i);rw [w9];rw [wX]at this
  lia
 ·rintro i x ys H' hi ⟨e,rfl⟩;have D:i < rs.length:=by
   have:=(wk.mp hi).1
   rwa [bo]at this
  rw [z0c D]at hi;cases hi;have t:=s1.trans e;have bY:=(C.2 _ (wI D)).2;have hlen:rs[i].2.length=(za th q).length:=jK TT hok _ (by rw [<-u];exact qI.mpr ⟨_,wI D,rfl⟩);refine !(!(zh (t _ _ h1) jr (!⟨cv,hp,rs[i].1,za th q,rs[i].2,c,rfl,hc.same e,U,t _ _ L,e _ _ bY,hlen,by lia,λs l=>!?_⟩)));have ft:=z1X (λr:Addr×List Int=>ev (za th q) r.2 c) rs (we D);cases hev:ev (za th q) rs[i].2 c with
  | true=>
   refine ifT rfl ?_;refine !⟨e.trans l,?_⟩;rw [ft,hev,wY rfl];simp [refs]
  | false=>
   refine ifF rfl ?_;refine⟨e.trans l,?_⟩;rw [ft,hev];simp
 ·rintro ys H' ⟨e,rfl⟩ np Y;rw [bo,qH];refine ze (upd _ np _) rfl Y λH2 M x2=> ?_
  have oI:=z0a Y M x2 λr m=>e _ _ (C.2 r (Qz.mp m).1).2
  have s2:=s1.trans (e.trans M);have dX:=hc.same (e.trans M);have g2:=s2 _ _ h1;have j2:=G.same s2;refine⟨λσ s=>∃(z:V) (c':Cond) (B:Addr) (fs:List (Addr×List Int)),σ= [some (.ref p),some (.int a9),some z,some (.ref B),none]/\zz H s/\zG s c' z/\jB (za th q) c'/\c'.size<=6/\RowsAt s B fs/\fs.map (·.2)=rowsOf th tr (.pick c' q),?_,?_⟩
  ·refine !⟨(zq rfl),λep S=> ?_⟩;refine ze (upd _ ep _) rfl S λs y x3=> ?_
   refine⟨np,ep,!⟨rfl,SqL.of (y _ _ x2),SqL.of x3,!⟨_,(!(ex2 rfl rfl ⟨(by show(0:Int) < 3;decide),ex2 rfl rfl (!⟨rfl,rfl⟩)⟩)),?_⟩⟩⟩;have l:=s2.trans y;refine kC (λR=> ?_) (λR=> ?_)
   ·rw [Q2]at R;have oJ:(rs.filter λr=>ev (za th q) r.2 c)= []:=by
     have:=R.1;rw [List.isEmpty_iff]at this;exact List.map_eq_nil_iff.mp this
    refine !⟨(zq rfl),λkp eL=> ?_⟩;refine ze (upd _ kp _) rfl eL λH4 n4 x4=> ?_
    have n:=l.trans n4;refine !(zh (n _ _ h1) z1L ⟨rp,!⟨.inl (SqL.of (G.same n).1),λdp df=> ?_⟩⟩);have j4:=G.same n;refine ze (upd _ dp _) rfl df λH5 o O=> ?_
    have iE:=z0a df o O λr m=>(j4.2 r m).2
    refine⟨_,.no c,dp,rs,rfl,n.trans o,⟨kp,cv,rfl,o _ _ x4,dX.same (y.trans (n4.trans o))⟩,U,by simp only [Cond.size];lia,iE,?_⟩
    show _=(rowsOf th tr q).filter λr=>ev (za th q) r (.no c)
    rw [u,eq_comm,w1g];intro r ck;rw [<-u]at ck;obtain⟨x,hx,rfl⟩:=qI.mp ck;have:=w0p.mp oJ x hx
    show(not (ev (za th q) x.2 c))=true
    simpa using this
   ·refine⟨_,c,np,!⟨l,dX.same y,U,by lia,oI.same y,?_⟩⟩;rw [za7,u]
    rfl
  ·rintro σ s ⟨z,c',B,fs,rfl,l,sK,I,vY,vZ,e3⟩;have ls:=yX cq I;have g3:=l _ _ h1;refine !⟨z,za th q,c',rfl,sK,I,cq,by lia,by lia,λH4 n=> ?_⟩;have X:=n _ _ g3;refine ex2 rfl rfl ⟨by(walk_at "sl"),ex2 rfl rfl ⟨by(walk_at "sl"),!(zh X j6 (ex2 rfl rfl ⟨by(walk_at "sl"),ex2 rfl rfl ⟨by(walk_at "sl"),?_⟩⟩))⟩⟩;refine !(!(zh X zF ⟨(zq rfl),λZ cJ=> ?_⟩));refine ze (upd _ Z _) rfl cJ λH5 o O=> ?_
   refine !(!(zh (o _ _ X) jr (!⟨(zq rfl),λsp aq=> ?_⟩)));refine ze (upd _ sp _) rfl aq λH6 n6 x6=> ?_
   have J:=n.trans (o.trans n6);have N:=l.trans J;exact fin _ c' _ N ⟨sp,_,hp,B,fs,rfl,x6,⟨Z,z,qv,rfl,n6 _ _ O,sK.same J,h2.same N⟩,N _ _ L,vZ.same J,e3⟩ I vY
theorem z21{m:Int}(h:0<=m):z0H xs none (some m)=xs.take m.toNat:=by
 unfold z0H;rw [HT.sIx_none,w1a,Nat.sub_zero];have e:HT.sIx xs.length xs.length (some m)=min m.toNat xs.length:=by
  show(if m < 0 then(m + (xs.length:Int)).toNat else min m.toNat xs.length)=_
  rw [wU (by lia)]
 rw [e,List.take_eq_take_iff]
 lia
theorem z86{xs:List Int}{i:Int}(a:∀m∈xs,m∈z0k)(h0:0<=i)(h1:i < (xs.length:Int)):∃m∈z0k,atI (xs.map V.int) i=some (.int m):=by
 obtain⟨h,e⟩:=z7N (xs:=xs.map V.int) h0 (by rw [w9];exact h1);have h':i.toNat < xs.length:=by simpa using h
 refine⟨xs[i.toNat],a _ (wI _),?_⟩;rw [e,List.getElem_map]
noncomputable def z8k:List Int:= [9,1,5,3,12,7,0,10 ^ 9]
noncomputable def z8p:List Int:= [4,0,2,3,8,7,10 ^ 9]
theorem zbp:∀m∈z8k,m∈z0k:=by decide +kernel
theorem za8:∀m∈z8p,m∈z0k:=by decide +kernel
theorem zeq:(z8k.length:Int)=8:=rfl
theorem zej:(z8p.length:Int)=7:=rfl
theorem zb5(i:Int):∃m∈z0k,atI (z8k.map V.int) (i % 8)=some (.int m):=z86 zbp (z1n (by decide)).1 (by rw [zeq];exact(z1n (by decide)).2)
theorem zbF(i:Int):∃m∈z0k,atI (z8p.map V.int) (i % 7)=some (.int m):=z86 za8 (z1n (by decide)).1 (by rw [zej];exact(z1n (by decide)).2)
def zfl(a:H0 l0=some (HO.lst [V.int 9,V.int 1,V.int 5,V.int 3,V.int 12,V.int 7,V.int 0,V.int ((10:Int) ^ (9:Int).toNat)])):H0 l0=some (.lst (z8k.map V.int)):=a
def zfi(a:H0 l0=some (HO.lst [V.int 4,V.int 0,V.int 2,V.int 3,V.int 8,V.int 7,V.int ((10:Int) ^ (9:Int).toNat)])):H0 l0=some (.lst (z8p.map V.int)):=a
theorem z5w:∀m∈z0k,0<=m:=by decide +kernel
def z6z{m:Int}(h:m∈z0k):zbs (.int m) (toString m):= .inl ⟨m,rfl,(z07 m h).2,rfl⟩
inductive spHeaded (K:W.Frag) (vs:List V) (H:Hp) (Q:VK) (E:XK):Prop
 | mk:∀th tr q v a9,vs= [v,.int a9]->kE th tr H v q->(zD q).length<=4000000->(∀(v':V) (q':Qn) (H':Hp),zz H H'->kE th tr H' v' q'->(∃n∈z0k,q'= .first n q\/∃m∈z0k,q'= .first m (.first n q))->Q v' H')->spHeaded K vs H Q E
def z5o(n:Nat)(h:RowsAt H rp rs):∀r∈rs.take n,H r.1=some (.lst (r.2.map V.int)):=λr m=>(h.2 r (QK m)).2
theorem ji:FnScope ["_law_state","_law_seed","_law_many","_law_line","_law_question","_law_rows","_law_more"] ["_law_state","_law_seed"] (zm z0Z):=by walk_at "s"
theorem z4K(F:Fun K "_law_headed" "_law_headed" z0Z f fd)(T:Txt K mg):FnOk P w K mg base CX0 1 f fd ["_law_state","_law_seed"] (spHeaded K):=by
 refine F.okB ji (λvs H Q E h=> ?_) (λvs H Q E h=> ?_)
 ·obtain⟨th,tr,q,v,a9,rfl,_⟩:=h
  rfl
 obtain⟨th,tr,q,v,a9,rfl,X,fW,fin⟩:=h;obtain⟨p,qv,hp,rp,rs,rfl,h1,h2,x,h4,O⟩:=X;obtain⟨m,c,N⟩:=zb5 (a9 / 2);obtain⟨e,d,e2⟩:=zbF (a9 / 16 + a9);have ll:=(z07 m c).1;have Dp:=(z07 e d).1;have Y:=z5w m c;have R:=z5w e d;intro ad A outer sh hr;refine⟨_,(zc (seT 2 ji (ixL (zw (zo zd (zo zd (zo zd (zo zd (zo zd (zo zd (zo zd (yy (z40 ⟨by decide,by decide,by decide⟩) zb))))))))) (zr zZ (zr yn v1 zd) zd)))
  (zc (seT 3 ji (zr zp (zr zp (zr zp (zr zp zi (jg z29 rfl T.str Q0 (zf v2 zb))) zi) (ixT v0 zd)) zi))
  (zc (seT 4 ji (zB (zo zi (zf v2 (zj (ixT v0 zd) zb)))))
  (zc (seT 5 ji (jc kz (ixT v0 zd) jx (jk v2)))
  (zc (zC (cmT zM (zr zZ v1 zd) zd)
   (zc (seT 6 ji (ixL (zw (zo zd (zo zd (zo zd (zo zd (zo zd (zo zd (yy (z40 ⟨by decide,by decide,by decide⟩) zb)))))))) (zr zZ (zr kG (zr yn v1 zd) v1) zd)))
   (zc (seT 3 ji (zr zp (zr zp (zr zp (zr zp zi (jg z29 rfl T.str Q0 (zf (pv 6) zb))) zi) v3) zi))
   (zc (seT 4 ji (zB (zo zi (zf (pv 6) (zf v4 zb)))))
   (zg (seT 5 ji (jc kz v5 jx (jk (pv 6))))))))
   zu)
  (zg (zt (zB (zf v4 (zf v3 (zj (ixT v0 zd) (zf v5 zb)))))))))))),?_⟩
 generalize hK0:K=K1
 revert K1
 refine jq (by walk_at "cl") ?_;refine⟨(zq rfl),λl0 f0=> ?_⟩;refine ze (upd _ l0 _) rfl f0 λH0 s o=> ?_
 replace o:=zfl o;refine !(ex2 rfl rfl ⟨⟨by decide,by decide⟩,ex2 rfl rfl ⟨(by show(0:Int) < 8;decide),zx o N ?_⟩⟩);refine !⟨_,!⟨z6z c,ex2 rfl rfl ⟨by(walk_at "sl"),ex2 rfl rfl ⟨by(walk_at "sl"),!(zh (s _ _ h1) j6 (ex2 rfl rfl ⟨by(walk_at "sl"),ex2 rfl rfl ⟨by(walk_at "sl"),?_⟩⟩))⟩⟩⟩⟩;refine !(!(zh (s _ _ h1) zF ⟨(zq rfl),λq1 f1=> ?_⟩));refine ze (upd _ q1 _) rfl f1 λH1 L x1=> ?_
 have s1:=s.trans L;have B:=h4.same s1;refine !(zh (s1 _ _ h1) z1L (!(!⟨rp,!⟨SqL.of B.1,λr2 f2=> ?_⟩⟩)));rw [z21 Y,<-w0N];refine ze (upd _ r2 _) rfl f2 λH2 i x2=> ?_
 have s2:=s1.trans i;have w2:=z0a f2 i x2 (z5o _ B);have I:QAt H2 (.first m q) (.ref q1):=⟨q1,qv,rfl,i _ _ x1,h2.same s2⟩;have G:(rs.take m.toNat).map (·.2)=rowsOf th tr (.first m q):=by
  rw [w0N,O]
  rfl
 have eR:(zD (.first m q)).length<=4000100:=by simp only [zD];(walk_at "sl")
 refine !(ex2 rfl rfl ⟨(by show(0:Int) < 2;decide),rfl,!?_⟩);refine kC (λU=> ?_) (λU=> ?_)
 ·refine⟨(zq rfl),λM f3=> ?_⟩;refine ze (upd _ M _) rfl f3 λH3 n3 l=> ?_
  replace l:=zfi l;refine !(ex2 rfl rfl ⟨⟨by decide,by decide⟩,!(ex2 rfl rfl (ex2 rfl rfl ⟨(by show(0:Int) < 7;decide),zx l e2 ?_⟩))⟩);refine !⟨_,!⟨z6z d,ex2 rfl rfl ⟨by(walk_at "sl"),ex2 rfl rfl ⟨by(walk_at "sl"),!⟨_,(zD (.first m q)),rfl,rfl,by(walk_at "sl"),ex2 rfl rfl ⟨by(walk_at "sl"),?_⟩⟩⟩⟩⟩⟩;refine !(!⟨(zq rfl),λD Z=> ?_⟩);refine ze (upd _ D _) rfl Z λH4 n4 x4=> ?_
  have J:=n3.trans n4;have z:=w2.same J;refine !(!(!⟨r2,!⟨SqL.of z.1,λy u=> ?_⟩⟩));rw [z21 R,<-w0N];refine ze (upd _ y _) rfl u λH5 j S=> ?_
  have w5:=z0a u j S (z5o _ z);have C:=J.trans j;have t:=s2.trans C;refine !(!(!(zh (t _ _ h1) jr (!⟨(zq rfl),λsp r=> ?_⟩))));refine ze (upd _ sp _) rfl r λH6 a n=> ?_
  have b:=t.trans a;refine fin _ (.first e (.first m q)) _ b ⟨sp,_,hp,y,!⟨n,⟨D,!⟨a _ _ (j _ _ x4),I.same (C.trans a)⟩⟩,b _ _ x,w5.same a,?_⟩⟩ ⟨m,c,.inr ⟨e,d,rfl⟩⟩;rw [w0N,G]
  rfl
 ·refine !(!(!(zh (s2 _ _ h1) jr (!⟨(zq rfl),λsp r=> ?_⟩))));refine ze (upd _ sp _) rfl r λH6 a n=> ?_
  have b:=s2.trans a;exact fin _ (.first m q) _ b ⟨sp,_,hp,r2,!⟨n,I.same a,b _ _ x,w2.same a,G⟩⟩ ⟨m,c,.inl rfl⟩
variable{gs:List (Addr×List Int)}
theorem zcq{sp d hp x y:Addr}{a b:Qn}{c:V}{fs:List (Addr×List Int)}(s:zz H H')(e:H' sp=some (.tup [.ref d,.str (zD (.both a b)),.ref hp,.ref np]))(f:H' d=some (.tup [.str "both",qv,c]))(h1:QAt H' a qv)(h2:QAt H' b c)
  (i:H' hp=some (.lst ((za th a).map V.str))) (hr:RowsAt H' np (fs ++ gs)) (h:fs.map (·.2)=rowsOf th tr a) (j:gs.map (·.2)=rowsOf th tr b):kE th tr H' (.ref sp) (.both a b):=
 ⟨sp,_,hp,np,!⟨e,⟨d,qv,c,rfl,f,h1,h2⟩,i,hr,by rw [wK,h,j];rfl⟩⟩
theorem zbg{a b:Addr}{fs:List (Addr×List Int)}(c:H np=none)(n:zz H H')(x:H' np=some (.lst (refs fs ++ refs gs)))(h1:RowsAt H a fs)(h2:RowsAt H b gs):RowsAt H' np (fs ++ gs):=
 z0a c n (by rw [x];simp [refs]) λr m=>by
  rcases wA.mp m with m | m
  ·exact(h1.2 r m).2
  ·exact(h2.2 r m).2
theorem z4i(b:∀s∈za th q,s.length<=10)(a:jB (za th q) c)(sz:c.size<=6):(zD (.pick c q)).length<=(zD q).length + 1000:=by
 have d:=yX b a;simp only [zD]
 (walk_at "sl")
inductive spDoubled (K:W.Frag) (vs:List V) (H:Hp) (Q:VK) (E:XK):Prop
 | mk:∀th tr q v a9,vs= [v,.int a9]->TabOk th tr->kE th tr H v q->okQ th q->(zD q).length<=4000000->(rowsOf th tr q).length<=100000->(∀(v':V) (q':Qn) (c:Cond) (H':Hp),zz H H'->kE th tr H' v' q'->jB (za th q) c->c.size<=6->(q'= .both q (.pick c q)\/q'= .both (.pick c q) q)->Q v' H')->spDoubled K vs H Q E
theorem jY:FnScope ["_law_state","_law_seed","_law_one","_law_other","_law_line"] ["_law_state","_law_seed"] (zm z0x):=by walk_at "s"
theorem z3L(F:Fun K "_law_doubled" "_law_doubled" z0x f fd)(T:Txt K mg)(a:Kn P w K mg base 8 "_law_picked" ["_law_state","_law_seed"] (spPicked K)):FnOk P w K mg base CX0 9 f fd ["_law_state","_law_seed"] (spDoubled K):=by
 refine F.okB jY (λvs H Q E h=> ?_) (λvs H Q E h=> ?_)
 ·obtain⟨th,tr,q,v,a9,rfl,_⟩:=h
  rfl
 obtain⟨th,tr,q,v,a9,rfl,TT,C,hok,X,l,fin⟩:=h;have cq:=j8 TT hok;intro ad A outer sh hr;refine⟨_,(zc (seT 2 jY v0)
  (zc (seT 3 jY (zW a hr.m (zf v0 (zf v1 zb))))
  (zc (z0f (cmT zM (zr zZ (zr yn v1 zd) zd) zd)
   (zc (seT 2 jY v3)
   (zg (seT 3 jY v0)))
   zu)
  (zc (seT 4 jY (zr zp (zr zp (zr zp (zr zp zi (ixT v2 zd)) zi) (ixT v3 zd)) zi))
  (zg (zt (zB (zH (zB (zo zi (zj (ixT v2 zd) (zj (ixT v3 zd) zb)))) (zf v4 (zj (ixT v0 zd) (yy (zr kH (ixT v2 zd) (ixT v3 zd)) zb))))))))))),?_⟩
 generalize hK0:K=K1
 revert K1
 refine jq (by walk_at "cl") ?_;refine !?_;refine !(!⟨th,tr,q,v,a9,rfl,TT,C,hok,X,l,λv1 c H1 s1 i J sz=> ?_⟩);have s:=C.same s1;have lp:=z4i cq J sz;have rl:(rowsOf th tr (.pick c q)).length<=100000:=wW (qE _ _) l;have eh:za th (.pick c q)=za th q:=rfl;refine⟨λσ u=>∃(n tv:V) (d e:Qn),σ= [some v,some (.int a9),some n,some tv,none]/\u=H1/\kE th tr H1 n d/\kE th tr H1 tv e/\(zD d).length<=4001000/\(zD e).length<=4001000/\(rowsOf th tr d).length<=100000/\(rowsOf th tr e).length<=100000/\za th d=za th q/\((d=q/\e= .pick c q)\/(d= .pick c q/\e=q)),?_,?_⟩
 ·refine !(ex2 rfl rfl ⟨⟨by decide,by decide⟩,ex2 rfl rfl ⟨(by show(0:Int) < 2;decide),rfl,!?_⟩⟩);refine kC (λS=> ?_) (λS=> ?_)
  ·refine !?_;refine !?_;exact⟨_,_,ex2 rfl rfl ⟨i,s,by lia,by lia,rl,l,eh,.inr ⟨rfl,rfl⟩⟩⟩
  ·exact⟨_,_,ex2 rfl rfl ⟨s,i,by lia,by lia,l,rl,rfl,.inl ⟨rfl,rfl⟩⟩⟩
 ·rintro σ u ⟨n,tv,d,e,rfl,rfl,O,xc,lo,lt,z,rt,Z,hq⟩;obtain⟨p,qv,hp,rp,rs,rfl,h1,h2,N,h4,h5⟩:=s;obtain⟨p1,iG,cQ,iE,bw,rfl,a1,a2,a3,D,B⟩:=O;obtain⟨p2,bZ,bX,gO,L,rfl,b1,b2,b3,G,I⟩:=xc;have l1:bw.length<=100000:=by rw [<-B,w9]at z;exact z
  have l2:L.length<=100000:=by rw [<-I,w9]at rt;exact rt
  refine !(zh a1 j6 (ex2 rfl rfl ⟨by(walk_at "sl"),ex2 rfl rfl ⟨by(walk_at "sl"),!(zh b1 j6 (ex2 rfl rfl ⟨by(walk_at "sl"),ex2 rfl rfl ⟨by(walk_at "sl"),?_⟩⟩))⟩⟩));refine !(zh a1 zF (!(zh b1 zF ⟨(zq rfl),λM cJ=> ?_⟩)));refine ze (upd _ M _) rfl cJ λH5 b R=> ?_
  refine !(!(zh (b _ _ h1) jr (!(zh (b _ _ a1) z1L (!(zh (b _ _ b1) z1L ⟨_,_,ex2 rfl rfl ⟨b _ _ D.1,b _ _ G.1,je (by rw [w9,w9];lia),λnp t=> ?_⟩⟩))))));refine ze (upd _ np _) rfl t λH6 o U=> ?_
  have rc:=zbg t o U (D.same b) (G.same b);refine⟨(zq rfl),λsp Y=> ?_⟩;refine ze (upd _ sp _) rfl Y λH7 r x7=> ?_
  have j:=b.trans (o.trans r);refine fin _ (.both d e) c _ (s1.trans j) (zcq (x:=p) (y:=p) j x7 (r _ _ (o _ _ R)) (a2.same j) (b2.same j) (by rw [Z];exact j _ _ N) (rc.same r) B I) J sz ?_;rcases hq with⟨rfl,rfl⟩ | ⟨rfl,rfl⟩
  ·exact .inl rfl
  ·exact .inr rfl
def TabAt(th:Str->List Str)(tr:Str->List (List Int))(H:Hp)(v:V)(n:Str):Prop:=∃(p hp rp:Addr) (rs:List (Addr×List Int)),v= .ref p/\H p=some (.tup [.str n,.ref hp,.ref rp])/\
 H hp=some (.lst ((th n).map V.str))/\RowsAt H rp rs/\rs.map (·.2)=tr n
theorem TabAt.same{v:V}(h:TabAt th tr H v n)(e:zz H H'):TabAt th tr H' v n:=by
 obtain⟨p,hp,rp,rs,rfl,h1,c,b,a⟩:=h;exact⟨p,hp,rp,rs,rfl,e _ _ h1,e _ _ c,b.same e,a⟩
theorem z4G(h:i < rs.length):(rs.map (·.2))[i]? =some rs[i].2:=by
 rw [wQ,we h]
 rfl
theorem z6V(h:i < rs.length):(rs.map (·.2)).getD i []=rs[i].2:=by
 rw [ww,z4G h]
 rfl
theorem z6R{m:Int}(h:0<=m):z0H xs (some m) none=xs.drop m.toNat:=by
 unfold z0H;rw [HT.sIx_none];have e:HT.sIx xs.length 0 (some m)=min m.toNat xs.length:=by
  show(if m < 0 then(m + (xs.length:Int)).toNat else min m.toNat xs.length)=_
  rw [wU (by lia)]
 rw [e];by_cases hm:m.toNat<=xs.length
 ·rw [Nat.min_eq_left hm,Qy (by rw [w0P];lia)]
 ·rw [Nat.min_eq_right (by lia),List.drop_of_length_le (wu _),List.drop_of_length_le (by lia),List.take_nil]
theorem z7a(hs:List α)(t:Nat):(hs.drop t ++ hs.take t).Perm hs:=by
 have:=List.perm_append_comm (l₁:=hs.drop t) (l₂:=hs.take t)
 rwa [List.take_append_drop]at this
theorem z9S(h:∀n∈ns,n.length<=10):(ns.map (·.length)).sum<=10 * ns.length:=by
 induction ns with
 | nil=>exact wu _
 | cons n ns a=>
  have h1:=h n qF;have h2:=a λm hm=>h m (wV _ hm)
  rw [qK,Qa,wP]
  lia
theorem z4b:∀{ns:List Str},(∀n∈ns,n.length<=10)->(Str.join " " ns).length<=11 * ns.length
 | [],_=>by simp [Str.join];decide
 | [n],h=>by
  have:=h n qF;simp only [Str.join,wJ]
  lia
 | n :: m :: ns,h=>by
  have h1:=h n qF;have h2:=z4b (ns:=m :: ns) λx a=>h x (wV _ a)
  simp only [Str.join,w16,z1o];have e:(n :: m :: ns).length=(m :: ns).length + 1:=rfl
  lia
inductive spColumns (K:W.Frag) (vs:List V) (H:Hp) (Q:VK) (E:XK):Prop
 | mk:∀th tr q v a9,vs= [v,.int a9]->TabOk th tr->kE th tr H v q->okQ th q->(zD q).length<=4000000->(rowsOf th tr q).length<=100000->(za th q).length<=1000->(∀(v':V) (ns:List Str) (H':Hp),zz H H'->kE th tr H' v' (.cols ns q)->ns≠ []->ns.Nodup->(∀n∈ns,n∈za th q)->Q v' H')->spColumns K vs H Q E
theorem jJ:FnScope ["_law_state","_law_seed","_law_turn","_law_names","_law_spots","_law_rows","_law_line"] ["_law_state","_law_seed"] (zm yf):=by walk_at "s"
theorem z3J(F:Fun K "_law_columns" "_law_columns" yf f fd)(T:Txt K mg):FnOk P w K mg base CX0 1 f fd ["_law_state","_law_seed"] (spColumns K):=by
 refine F.okB jJ (λvs H Q E h=> ?_) (λvs H Q E h=> ?_)
 ·obtain⟨th,tr,q,v,a9,rfl,_⟩:=h
  rfl
 obtain⟨th,tr,q,v,a9,rfl,TT,aK,hok,fW,bK,gP,fin⟩:=h;obtain⟨p,qv,hp,rp,rs,rfl,h1,h2,B,h4,R⟩:=aK;obtain⟨ao,mG⟩:=jA TT hok;have cq:=j8 TT hok;have dZ:=jK TT hok;have N:(refs rs).length=rs.length:=w9 _;have sO:rs.length<=100000:=by rw [<-R,w9]at bK;exact bK
 generalize hhs:za th q=hs at *;have hlen:(0:Int) < (((hs.map V.str).length:Nat):Int):=by
  have:=QU.mpr ao;rw [w9];lia
 intro ad A outer sh hr;refine⟨_,(zc (seT 2 jJ (zr zZ v1 (leN T.len (zj (ixT v0 zd) zb))))
  (zc (seT 3 jJ (zr kH (jc kz (ixT v0 zd) (jk v2) jx) (jc kz (ixT v0 zd) jx (jk v2))))
  (zc (z0f (z5T (cmT zM (zr zZ (zr yn v1 zd) zd) zd) (cmT z8a (leN T.len (zf v3 zb)) zd))
   (zg (seT 3 jJ (jc kz v3 (jk zd) jx)))
   zu)
  (zc (kf (i:=4) jJ.nd rfl (QO rfl) (yI rfl (CompSc.of (sx:=zm yf) (NX:= ["_law_state","_law_seed","_law_turn","_law_names","_law_spots","_law_rows","_law_line"]) (fr:= ["_law_state"]) (ix:= [0]) rfl rfl (by decide +kernel)) (jb v3) (λ_ _ _ _ _ _=>jZ) (λ_ _ _ _ _ _=>(zdQ (K:=K) rfl qB Qf Qu (z9w (K:=K) rfl) (yD (kc (K:=K) rfl) v1 zd (λ_ _=>rfl)) (zf v0 zb)))))
  (zc (jG (j:=5) rfl jJ.nd rfl (w02 rfl) (CompSc.of (sx:=zm yf) (NX:= ["_law_state","_law_seed","_law_turn","_law_names","_law_spots","_law_rows","_law_line"]) (fr:= ["_law_spots"]) (ix:= [4]) rfl rfl (by decide +kernel)) (jb (ixT v0 zd)) (λ_ _ _ _ _ _=>jZ) (λ_ _ _ _ _ _=>(yI rfl (CompSc.of2 (sx:=zm yf) (NX:= ["_law_row","_law_spots"]) (fr:= ["_law_row"]) (ix:= [0]) rfl rfl (by decide +kernel)) (z75 (K:=K) rfl v1) (λ_ _ _ _ _ _=>jZ) (λ_ _ _ _ _ _=>(yD (kB (K:=K) rfl) v1 v0 (λ_ _=>rfl))))))
  (zc (seT 6 jJ (zr zp (zr zp (zr zp (zr zp zi (z1z PySem.F.plainAttrs_str PySem.F.slot_str_join PySem.F.type_str_join z8B zi (zf v3 zb))) zi) (ixT v0 zd)) zi))
  (zg (zt (zB (zH (zB (zo zi (zX (jg z0T rfl T.tuple Qg (zf v3 zb)) (zj (ixT v0 zd) zb)))) (zf (pv 6) (zf v3 (zf v5 zb))))))))))))),?_⟩
 generalize hK0:K=K1
 revert K1
 refine jq (by walk_at "cl") ?_;refine !(!(zh h1 jr ⟨hp,!⟨.inl (SqL.of B),ex2 rfl rfl ⟨hlen,?_⟩⟩⟩));obtain⟨X,t1⟩:=z1n (i:=a9) hlen;obtain⟨tn,xf⟩:∃tn,a9 % (((hs.map V.str).length:Nat):Int)=tn:=⟨_,rfl⟩
 dsimp -proj only;rw [xf]at X t1 ⊢;refine !(zh h1 jr (!(!⟨hp,!⟨SqL.of B,λl1 f1=> ?_⟩⟩)));rw [z6R X,<-List.map_drop];refine ze (upd _ l1 _) rfl f1 λH1 J x1=> ?_
 refine !(zh (J _ _ h1) jr (!(!⟨hp,!⟨SqL.of (J _ _ B),λl2 f2=> ?_⟩⟩)));rw [z21 X,<-w0N];refine ze (upd _ l2 _) rfl f2 λH2 n2 x2=> ?_
 refine⟨_,_,ex2 rfl rfl ⟨n2 _ _ x1,x2,je (by rw [w9,w9,w0P,wX];lia),λu f3=> ?_⟩⟩;rw [<-wK];refine ze (upd _ u _) rfl f3 λH3 n3 C=> ?_
 have pm:=z7a hs tn.toNat
 have Z:(hs.drop tn.toNat ++ hs.take tn.toNat).length=hs.length:=pm.length_eq;have s:(hs.drop tn.toNat ++ hs.take tn.toNat).Nodup:=pm.nodup_iff.mpr mG;have c:∀n∈hs.drop tn.toNat ++ hs.take tn.toNat,n∈hs:=λn hn=>pm.mem_iff.mp hn
 generalize hs.drop tn.toNat ++ hs.take tn.toNat=ns0 at C Z s c;have s3:=J.trans (n2.trans n3);refine⟨λσ t=>∃(np:Addr) (ns:List Str),σ= [some (.ref p),some (.int a9),some (.int tn),some (.ref np),none,none,none]/\zz H t/\t np=some (.lst (ns.map V.str))/\ns≠ []/\ns.Nodup/\(∀n∈ns,n∈hs)/\ns.length<=1000,?_,?_⟩
 ·refine !(ex2 rfl rfl ⟨⟨by decide,by decide⟩,ex2 rfl rfl ⟨(by show(0:Int) < 3;decide),rfl,!⟨_,(!⟨u,!⟨.inl (SqL.of C),ex2 rfl rfl (!⟨rfl,rfl⟩)⟩⟩),?_⟩⟩⟩);refine kC (λS=> ?_) (λS=> ?_)
  ·rw [Q2]at S;have eM:=qD S.2;rw [w9]at eM;refine !⟨1,rfl,u,!⟨SqL.of C,λl4 f4=> ?_⟩⟩;rw [z6R (by decide),<-List.map_drop];refine ze (upd _ l4 _) rfl f4 λt n4 d=> ?_
   refine⟨l4,ns0.drop 1,rfl,s3.trans n4,d,λz=> ?_,s.sublist (List.drop_sublist _ _),λn hn=>c n (List.mem_of_mem_drop hn),by rw [w0P];lia⟩;have:=Qj List.length z;rw [w0P]at this;simp at this
   lia
  ·refine⟨u,ns0,rfl,s3,C,λz=> ?_,s,c,by lia⟩;rw [z]at Z;exact ao (QJ.mp Z.symm)
 ·rintro σ t ⟨np,ns,rfl,y,d,xg,s,c,xh⟩;have iJ:∀n∈ns,n.length<=10:=λn hn=>cq n (c n hn)
  refine !⟨np,rfl,⟨_,SqL.of d⟩,?_⟩;refine jH (xs:=ns.map V.str) (λi ys H'=>zz t H'/\ys=(ns.take i).map λn=>V.int ((hs.idxOf n:Nat):Int)) ⟨zz.refl _,rfl⟩ ?_ ?_ ?_
  ·rintro i ys H' hi ⟨b,rfl⟩;exact⟨SqL.of (b _ _ d),zK (by rw [w9,wX];lia)⟩
  ·rintro i x ys H' hi ⟨b,rfl⟩;have bx:i < ns.length:=by
    have:=(wk.mp hi).1
    rwa [w9]at this
   rw [wQ,we bx]at hi;cases hi;have fz:=yS (c _ (wI bx));have g3:=(y.trans b) _ _ B;refine !(zh ((y.trans b) _ _ h1) jr ⟨.inl ⟨rfl,_,SqL.of g3⟩,!⟨hp,_,_,hs.idxOf ns[i],rfl,rfl,SqL.of g3,rfl,jo hs,fz.1,fz.2,b,?_⟩⟩);rw [q5,we bx,wK]
   rfl
  ·rintro ys H' ⟨b,rfl⟩ sp aq;rw [w9,qH];refine ze (upd _ sp _) rfl aq λH5 n5 x5=> ?_
   have s5:=y.trans (b.trans n5);have j5:=h4.same s5;refine !(zh (s5 _ _ h1) z1L ⟨rp,rfl,⟨_,SqL.of j5.1⟩,?_⟩);refine jH (xs:=refs rs) (λi ys H'=>zz H5 H'/\∃qs:List (Addr×List Int),ys=refs qs/\qs.length=i/\(∀r∈qs,H' r.1=some (.lst (r.2.map V.int)))/\qs.map (·.2)=((rs.map (·.2)).take i).map λr=>ns.map λn=>r.getD (hs.idxOf n) 0) ⟨zz.refl _,[],rfl,rfl,λ_ z=>(by cases z),rfl⟩ ?_ ?_ ?_
   ·rintro i ys H6 hi ⟨a,qs,rfl,hq,_,_⟩;rw [N]at hi;exact⟨SqL.of (a _ _ j5.1),zK (by rw [w9];lia)⟩
   ·rintro i x ys H6 hi ⟨a,qs,rfl,hq,O,D⟩;have I:i < rs.length:=by
     have:=(wk.mp hi).1
     rwa [N]at this
    rw [z0c I]at hi;cases hi;have bY:=(j5.2 _ (wI I)).2;have iK:rs[i].2.length=hs.length:=dZ _ (by rw [<-R];exact qI.mpr ⟨_,wI I,rfl⟩);refine !⟨sp,rfl,⟨_,SqL.of (a _ _ x5)⟩,?_⟩;refine jH (xs:=ns.map λn=>V.int ((hs.idxOf n:Nat):Int)) (λm ys H'=>H'=H6/\ys=((ns.take m).map λn=>rs[i].2.getD (hs.idxOf n) 0).map V.int) ⟨rfl,rfl⟩ ?_ ?_ ?_
    ·rintro m ys L hm ⟨rfl,rfl⟩;exact⟨SqL.of (a _ _ x5),zK (by rw [w9,w9,wX];lia)⟩
    ·rintro m x ys L hm ⟨rfl,rfl⟩;have M:m < ns.length:=by
      have:=(wk.mp hm).1
      rwa [w9]at this
     rw [wQ,we M]at hm;cases hm;have bU:hs.idxOf ns[m] < rs[i].2.length:=by rw [iK];exact qX.mpr (c _ (wI M))
     refine !(!(zx (a _ _ bY) (zN (int_at bU)) ⟨rfl,?_⟩));rw [q5,we M,wK,wK]
     rfl
    ·rintro ys L ⟨rfl,rfl⟩ lp ai;rw [w9,qH];have e:=zJ ai (.lst ((ns.map λn=>rs[i].2.getD (hs.idxOf n) 0).map V.int));refine⟨a.trans e,qs ++ [(lp,ns.map λn=>rs[i].2.getD (hs.idxOf n) 0)],by simp [refs],by rw [wg,hq];rfl,λr m=> ?_,?_⟩
     ·rcases wA.mp m with m | m
      ·exact e _ _ (O r m)
      ·rw [wz.mp m];exact zl
     ·rw [wK,D,q5,z4G I,wK]
      rfl
   ·rintro ys H6 ⟨a,qs,rfl,hq,O,D⟩ wp c7;rw [N,show(rs.map (·.2)).take rs.length=rs.map (·.2)from Qy (by rw [w9];exact wu _)]at D;refine ze (upd _ wp _) rfl c7 λL n7 x7=> ?_
    have w7:=z0a c7 n7 x7 O;have xi:=a.trans n7;have G:=b.trans (n5.trans xi);have U:=y.trans G;have jl:=z4b iJ;have sl:=z9S iJ;refine⟨rfl,!⟨_,np,ns,rfl,rfl,SqL.of (G _ _ d),by rw [z1o];lia,ex2 rfl rfl ⟨by(walk_at "sl"),ex2 rfl rfl ⟨by(walk_at "sl"),!(zh (U _ _ h1) j6 (ex2 rfl rfl ⟨by(walk_at "sl"),ex2 rfl rfl ⟨by(walk_at "sl"),?_⟩⟩))⟩⟩⟩⟩;refine !⟨np,!(.inl ⟨SqL.of (G _ _ d),λtp aF=> ?_⟩)⟩;refine ze (upd _ tp _) rfl aF λH8 e x8=> ?_
    refine !(zh (e _ _ (U _ _ h1)) zF ⟨(zq rfl),λqp cJ=> ?_⟩);refine ze (upd _ qp _) rfl cJ λH9 n9 x9=> ?_
    refine !(!(!⟨(zq rfl),λo l=> ?_⟩));refine ze (upd _ o _) rfl l λac Y dy=> ?_
    have fY:=e.trans (n9.trans Y);have mJ:=U.trans fY;refine fin _ ns _ mJ ⟨o,_,np,wp,qs,rfl,dy,⟨qp,tp,qv,rfl,Y _ _ x9,Y _ _ (n9 _ _ x8),h2.same mJ⟩,(G.trans fY) _ _ d,w7.same fY,?_⟩ xg s c;rw [D,R];simp only [rowsOf,hhs]
inductive spSorted (K:W.Frag) (vs:List V) (H:Hp) (Q:VK) (E:XK):Prop
 | mk:∀th tr q v a9,vs= [v,.int a9]->TabOk th tr->kE th tr H v q->okQ th q->(zD q).length<=4000000->(rowsOf th tr q).length < 64->(∀(v':V) (n:Str) (H':Hp),zz H H'->kE th tr H' v' (.sort n q)->n∈za th q->Q v' H')->spSorted K vs H Q E
theorem jP:FnScope ["_law_state","_law_seed","_law_name","_law_spot","_law_keys","_law_rows","_law_pair","_law_line"] ["_law_state","_law_seed"] (zm kY):=by walk_at "s"
theorem z4s(F:Fun K "_law_sorted" "_law_sorted" kY f fd)(T:Txt K mg):FnOk P w K mg base CX0 1 f fd ["_law_state","_law_seed"] (spSorted K):=by
 refine F.okB jP (λvs H Q E h=> ?_) (λvs H Q E h=> ?_)
 ·obtain⟨th,tr,q,v,a9,rfl,_⟩:=h
  rfl
 obtain⟨th,tr,q,v,a9,rfl,TT,aK,hok,fW,bK,fin⟩:=h;obtain⟨p,qv,hp,rp,rs,rfl,h1,h2,y,D,N⟩:=aK;obtain⟨ao,mG⟩:=jA TT hok;have cq:=j8 TT hok;have dZ:=jK TT hok;have G:(refs rs).length=rs.length:=w9 _;have sO:rs.length < 64:=by rw [<-N,w9]at bK;exact bK
 have hlen:(0:Int) < ((((za th q).map V.str).length:Nat):Int):=by
  have:=QU.mpr ao;rw [w9];lia
 obtain⟨nm,mn,en⟩:=z1r (i:=a9) ao;have fz:=yS mn;have nl:=cq nm mn;intro ad A outer sh hr;refine⟨_,(zc (seT 2 jP (ixL (ixT v0 zd) (zr zZ v1 (leN T.len (zj (ixT v0 zd) zb)))))
  (zc (kf (i:=3) jP.nd rfl (QO rfl) (z1z qB Qf Qu z0D (ixT v0 zd) (zf v2 zb)))
  (zc (jG (j:=4) rfl jP.nd rfl (w02 rfl) (CompSc.of (sx:=zm kY) (NX:= ["_law_state","_law_seed","_law_name","_law_spot","_law_keys","_law_rows","_law_pair","_law_line"]) (fr:= ["_law_state","_law_spot"]) (ix:= [0,3]) rfl rfl (by decide +kernel)) (jW rfl T.range (zX (leN T.len (zj (ixT v0 zd) zb)) zb)) (λ_ _ _ _ _ _=>jZ) (λ_ _ _ _ _ _=>(zB (zj (yD (kB (K:=K) rfl) (yD (kB (K:=K) rfl) (yD (kc (K:=K) rfl) v1 zd (λ_ _=>rfl)) v0 (λ_ _=>rfl)) v2 (λ_ _=>rfl)) (zf v0 zb)))))
  (zc (seT 5 jP (zw zb))
  (zc (foR (jb (zR (z6g rfl) rfl T.sorted PyProof.Rows.boot_sorted (zf v4 zb))) (gnM 6 jP)
   (zg (jh (apP v5 (zj (ixL (ixT v0 zd) (ixT (pv 6) zd)) zb)))))
  (zc (seT 7 jP (zr zp (zr zp (zr zp (zr zp zi v2) zi) (ixT v0 zd)) zi))
  (zg (zt (zB (zH (zB (zo zi (zf v2 (zj (ixT v0 zd) zb)))) (zf (pv 7) (zj (ixT v0 zd) (zf v5 zb))))))))))))),?_⟩
 generalize hK0:K=K1
 revert K1
 refine jq (by walk_at "cl") ?_;refine !(zh h1 jr (!(!(zh h1 jr ⟨hp,!⟨.inl (SqL.of y),ex2 rfl rfl ⟨hlen,zx y en ?_⟩⟩⟩))));refine !(zh h1 jr ⟨.inl ⟨rfl,_,SqL.of y⟩,!⟨hp,_,_,(za th q).idxOf nm,rfl,rfl,SqL.of y,rfl,jo _,fz.1,fz.2,?_⟩⟩);have sl:∀r∈rs,(za th q).idxOf nm < r.2.length:=λr m=>by
  rw [dZ r.2 (by rw [<-N];exact qI.mpr ⟨_,m,rfl⟩)];exact qX.mpr mn
 generalize aq:(za th q).idxOf nm=sp at sl;refine !(zh h1 z1L ⟨rp,!⟨.inl (SqL.of D.1),!⟨by lia,by rw [G];lia,?_⟩⟩⟩);refine z1O (lo:=0) (n:=(((refs rs).length:Nat):Int).toNat) (λi ys H'=>zz H H'/\∃ps:List PQ,ys=(ps.map λp=>V.ref p.1)/\ps.length=i/\(∀p∈ps,H' p.1=some (.tup [.int p.2.1,.int p.2.2]))/\∀(m:Nat) (hm:m < ps.length),ps[m].2=((rs.getD m (0,[])).2.getD sp 0,(m:Int))) ⟨zz.refl _,[],rfl,rfl,λ_ z=>(by cases z),λm hm=>absurd hm (w1v _)⟩ ?_ ?_ ?_
 ·rintro i ys H' hi ⟨t,ps,rfl,hq,_,_⟩;rw [Int.toNat_natCast,G]at hi;exact zK (by rw [w9];lia)
 ·rintro i ys H' hi ⟨t,ps,rfl,hq,L,M⟩;rw [Int.toNat_natCast,G]at hi;have bY:=t _ _ (D.2 _ (wI hi)).2;refine !(zh (t _ _ h1) z1L (!(zx (t _ _ D.1) (z66 hi) (!(zx bY (zN (int_at (sl _ (wI hi)))) (!⟨(zq rfl),λtp aF=> ?_⟩))))));have u:=zJ aF (.tup [V.int (rs[i].2.getD sp 0),V.int (0 + (i:Int))]);refine⟨t.trans u,ps ++ [(tp,rs[i].2.getD sp 0,0 + (i:Int))],by simp,by rw [wg,hq];rfl,λr m=> ?_,λm hm=> ?_⟩
  ·rcases wA.mp m with m | m
   ·exact u _ _ (L r m)
   ·rw [wz.mp m];exact zl
  ·rw [wg,wJ]at hm;by_cases gH:m < ps.length
   ·rw [List.getElem_append_left gH];exact M m gH
   ·have em:m=ps.length:=by lia
    subst em;rw [List.getElem_append_right (wu _)];simp only [w1n,List.getElem_cons_zero];rw [hq,ww (l:=rs),we hi,QH]
    rfl
 ·rintro ys H' ⟨t,ps,rfl,hq,L,M⟩ kp eL;rw [Int.toNat_natCast,G]at hq;refine ze (upd _ kp _) rfl eL λH1 u x1=> ?_
  have s1:=t.trans u;refine⟨(zq rfl),λd c7=> ?_⟩;refine ze (upd _ d _) rfl c7 λH2 I x2=> ?_
  have s2:=s1.trans I;have iL:H d=none:=s1.free c7;refine !⟨kp,ps,rfl,SqL.of (I _ _ x1),λp m=>I _ _ (u _ _ (L p m)),by lia,λdp c df pm pw=> ?_⟩;have eA:dp≠d:=(zy x2 df).symm;refine ze (upd _ dp _) rfl df λH3 S x3=> ?_
  rw [hq]at pm;have mem:∀i∈c,i < rs.length:=λi hi=>Qp.mp (pm.mem_iff.mp hi)
  have X:∀i,i < rs.length->(ps.getD i pq0).2=((rs.getD i (0,[])).2.getD sp 0,(i:Int)):=λi hi=>by
   rw [ww,we (by lia)];exact M i (by lia)
  have s3:=s2.trans S;refine⟨dp,rfl,⟨_,SqL.of x3⟩,z0B (K:=K) (a:=dp) (xs:=c.map λi=>V.ref (ps.getD i pq0).1) (λi σ H'=>∃U:Option V,σ= [some (.ref p),some (.int a9),some (.str nm),some (.int ((sp:Nat):Int)),some (.ref kp),some (.ref d),U,none]/\zz H H'/\H' dp=some (.lst (c.map λi=>V.ref (ps.getD i pq0).1))/\(∀p∈ps,H' p.1=some (.tup [.int p.2.1,.int p.2.2]))/\
   RowsAt H' d ((c.take i).map λi=>rs.getD i (0,[]))) ⟨none,rfl,s3,x3,λp m=>S _ _ (I _ _ (u _ _ (L p m))),ky (S _ _ x2)⟩ (λi σ H' _ ⟨_,_,_,z,_⟩=>SqL.of z) ?_ ?_⟩
  ·rintro i x σ H4 hi ⟨U,rfl,e,d4,J,s⟩;have R:i < c.length:=by
    have:=(wk.mp hi).1
    rwa [w9]at this
   rw [wQ,we R]at hi;cases hi;have o:=mem _ (wI R);have mp:ps.getD c[i] pq0∈ps:=by
    rw [ww,we (by lia)];exact wI _
   have ek:=X _ o;have e2:(ps.getD c[i] pq0).2.2=((c[i]:Nat):Int):=by rw [ek]
   have j4:=D.same e;have eg:rs.getD c[i] (0,[])=rs[c[i]]:=by rw [ww,we o];rfl
   refine !⟨.inl ⟨rfl,_,SqL.of s.1⟩,!(zh (e _ _ h1) z1L (!(zh (J _ mp) j6 ⟨rp,_,_,V.ref rs[c[i]].1,rfl,rfl,SqL.of j4.1,by rw [e2];exact zN (z0c o),d,ex2 rfl rfl ⟨s.1,zK (by rw [w9,w9,wX,pm.length_eq,List.length_range];lia),?_⟩⟩)))⟩;refine !⟨e.put iL,by rw [zn eA];exact d4,λq' m=>by rw [zn (z5G (J q' m) s.1 (by intro z;cases z))];exact J q' m,?_⟩;rw [q5,we R,wK];have rr:=(j4.2 _ (wI o));have xj:rs[c[i]].1≠d:=λz=>by
    have:=(D.2 _ (wI o)).2;rw [z,iL]at this;cases this
   have:=s.push (q:=rs[c[i]].1) (x:=rs[c[i]].2) xj rr.2
   show RowsAt _ d (_ ++ [rs.getD c[i] (0,[])])
   rw [eg];exact this
  ·rintro σ H4 ⟨U,rfl,e,d4,J,s⟩;rw [w9,qH]at s;refine !(ex2 rfl rfl ⟨by(walk_at "sl"),ex2 rfl rfl ⟨by(walk_at "sl"),!(zh (e _ _ h1) j6 (ex2 rfl rfl ⟨by(walk_at "sl"),ex2 rfl rfl ⟨by(walk_at "sl"),?_⟩⟩))⟩⟩);refine !(!(zh (e _ _ h1) zF ⟨(zq rfl),λqp cJ=> ?_⟩));refine ze (upd _ qp _) rfl cJ λH5 n5 x5=> ?_
   refine !(!(zh (n5 _ _ (e _ _ h1)) jr (!⟨(zq rfl),λC B=> ?_⟩)));refine ze (upd _ C _) rfl B λH6 n6 x6=> ?_
   have Z:=n5.trans n6;have O:=e.trans Z;refine fin _ nm _ O ⟨C,_,hp,d,!⟨x6,⟨qp,qv,rfl,n6 _ _ x5,h2.same O⟩,O _ _ y,s.same Z,?_⟩⟩ mn
   show _=z06 ((za th q).idxOf nm) (rowsOf th tr q)
   rw [aq,<-N];unfold z06;have e0:c=z2A (z3v (rs.map (·.2)) sp) (rs.map (·.2)).length:=by
    rw [w9];refine z71 pm (QW.mpr λa b ha hb cZ=> ?_);have h0:=QW.mp pw a b ha hb cZ;have ka:∀i,i < rs.length->z3v (rs.map (·.2)) sp i=(rs.getD i (0,[])).2.getD sp 0:=λi hi=>by
     unfold z3v;rw [z6V hi,ww (l:=rs),we hi]
     rfl
    have Y:=mem _ (wI ha);have mb:=mem _ (wI hb);rw [X _ Y,X _ mb]at h0;have h0:=of_decide_eq_false h0;refine wS ?_;rw [ka _ Y,ka _ mb];replace h0:¬((rs.getD c[b] (0,[])).2.getD sp 0 < (rs.getD c[a] (0,[])).2.getD sp 0\/(rs.getD c[b] (0,[])).2.getD sp 0=(rs.getD c[a] (0,[])).2.getD sp 0/\((c[b]:Nat):Int) < ((c[a]:Nat):Int)):=h0
    lia
   rw [<-e0,w11];refine w1h λi hi=> ?_
   have o:=mem i hi
   show(rs.getD i (0,[])).2=_
   rw [z6V o,ww,we o]
   rfl
theorem z7K{s:Nat}{rows:List (List Int)}{r:List Int}(h:rows[i]? =some r):z0P s (rows.take (i + 1))=if r.getD s 0∈z0P s (rows.take i)then z0P s (rows.take i)else z0P s (rows.take i) ++ [r.getD s 0]:=by
 unfold z0P;rw [q5,h,List.foldl_append]
 rfl
theorem z5J{s:Nat}(rows:List (List Int)):(z0P s rows).length<=rows.length:=by
 have go:∀(rows:List (List Int)) (a:List Int),(rows.foldl (λa r=>if r.getD s 0∈a then a else a ++ [r.getD s 0]) a).length<=a.length + rows.length:=by
  intro rows
  induction rows with
  | nil=>intro a;exact wu _
  | cons r rows b=>
   intro a;rw [List.foldl_cons,wP];refine wW (b _) ?_;split
   ·lia
   ·rw [wg,wJ];lia
 have:=go rows [];rw [Qo,w1o]at this;exact this
theorem z8i{x:Int}:∀{xs:List Int},inV (.int x) (xs.map V.int)=decide (x∈xs)
 | []=>by simp [inV]
 | y :: ys=>by
  have a:=z8i (x:=x) (xs:=ys);unfold inV at a ⊢;rw [qK,w1r,a]
  show((y == x) || decide (x∈ys))=_
  by_cases h:y=x
  ·subst h;simp
  ·rw [show(y == x)=false by simpa using h,Bool.false_or];by_cases m:x∈ys
   ·simp [m]
   ·have b:¬x=y:=λz=>h z.symm
    simp [m,b]
theorem z9R(xs:List Int):(xs.map V.int).all yY=true:=by
 rw [List.all_map];exact qQ.mpr λ_ _=>rfl
inductive spCounted (K:W.Frag) (vs:List V) (H:Hp) (Q:VK) (E:XK):Prop
 | mk:∀th tr q v a9 g,vs= [v,.int a9,.str g]->TabOk th tr->kE th tr H v q->okQ th q->g.length=1->(zD q).length<=4000000->(rowsOf th tr q).length<=100000->(∀(v':V) (a b:Str) (H':Hp),zz H H'->kE th tr H' v' (.group a b (("n":Str) ++ g) (("s":Str) ++ g) q)->a∈za th q->b∈za th q->Q v' H')->spCounted K vs H Q E
theorem zT:FnScope ["_law_state","_law_seed","_law_sign","_law_by","_law_of","_law_spot","_law_place","_law_rows","_law_row","_law_same","_law_total","_law_names","_law_line","_law_question"] ["_law_state","_law_seed","_law_sign"] (zm yd):=by walk_at "s"
theorem z3I(F:Fun K "_law_counted" "_law_counted" yd f fd)(T:Txt K mg):FnOk P w K mg base CX0 1 f fd ["_law_state","_law_seed","_law_sign"] (spCounted K):=by
 refine F.okB zT (λvs H Q E h=> ?_) (λvs H Q E h=> ?_)
 ·obtain⟨th,tr,q,v,a9,g,rfl,_⟩:=h
  rfl
 obtain⟨th,tr,q,v,a9,g,rfl,TT,aK,hok,gl,fW,bK,fin⟩:=h;obtain⟨p,qv,hp,rp,rs,rfl,h1,h2,d,o,Z⟩:=aK;obtain⟨ao,mG⟩:=jA TT hok;have cq:=j8 TT hok;have dZ:=jK TT hok;have L:(refs rs).length=rs.length:=w9 _;have sO:rs.length<=100000:=by rw [<-Z,w9]at bK;exact bK
 have hlen:(0:Int) < ((((za th q).map V.str).length:Nat):Int):=by
  have:=QU.mpr ao;rw [w9];lia
 obtain⟨a,J,ea⟩:=z1r (i:=a9) ao;obtain⟨b,mb,eb⟩:=z1r (i:=a9 / 2) ao;have ia:=yS J;have ib:=yS mb;have la:=cq a J;have lb:=cq b mb;intro ad A outer sh hr;refine⟨_,(zc (seT 3 zT (ixL (ixT v0 zd) (zr zZ v1 (leN T.len (zj (ixT v0 zd) zb)))))
  (zc (seT 4 zT (ixL (ixT v0 zd) (zr zZ (zr yn v1 zd) (leN T.len (zj (ixT v0 zd) zb)))))
  (zc (kf (i:=5) zT.nd rfl (QO rfl) (z1z qB Qf Qu z0D (ixT v0 zd) (zf v3 zb)))
  (zc (kf (i:=6) zT.nd rfl (QO rfl) (z1z qB Qf Qu z0D (ixT v0 zd) (zf v4 zb)))
  (zc (seT 7 zT (zw zb))
  (zc (foR (jb (ixT v0 zd)) (z0I (i:=8) zT.nd rfl (QO rfl))
   (zg (zC (yb yr (ixL (pv 8) v5) (yI rfl (CompSc.of (sx:=zm yd) (NX:= ["_law_state","_law_seed","_law_sign","_law_by","_law_of","_law_spot","_law_place","_law_rows","_law_row","_law_same","_law_total","_law_names","_law_line","_law_question"]) (fr:= []) (ix:= []) rfl rfl (by decide +kernel)) (jb (pv 7)) (λ_ _ _ _ _ _=>jZ) (λ_ _ _ _ _ _=>(yD (kB (K:=K) rfl) v0 zd (λ_ _=>rfl)))) (by with_unfolding_all rfl))
    (zc (jG (j:=9) rfl zT.nd rfl (w02 rfl) (CompSc.of (sx:=zm yd) (NX:= ["_law_state","_law_seed","_law_sign","_law_by","_law_of","_law_spot","_law_place","_law_rows","_law_row","_law_same","_law_total","_law_names","_law_line","_law_question"]) (fr:= ["_law_spot","_law_row"]) (ix:= [5,8]) rfl rfl (by decide +kernel)) (jb (ixT v0 zd)) (λ_ _ _ _ _ _=>(z0s (cmT zM (yD (kB (K:=K) rfl) v0 v1 (λ_ _=>rfl)) (yD (kB (K:=K) rfl) v2 v1 (λ_ _=>rfl))))) (λ_ _ _ _ _ _=>v0))
    (zc (seT 10 zT (zR (z2Y rfl) rfl T.sum w12 (z1u (yI rfl (CompSc.of (sx:=zm yd) (NX:= ["_law_state","_law_seed","_law_sign","_law_by","_law_of","_law_spot","_law_place","_law_rows","_law_row","_law_same","_law_total","_law_names","_law_line","_law_question"]) (fr:= ["_law_place"]) (ix:= [6]) rfl rfl (by decide +kernel)) (jb (pv 9)) (λ_ _ _ _ _ _=>jZ) (λ_ _ _ _ _ _=>(yD (kB (K:=K) rfl) v0 v1 (λ_ _=>rfl)))) zb)))
    (zg (jh (apP (pv 7) (jM (zw (zj (ixL (pv 8) v5) (zX (leN T.len (zf (pv 9) zb)) (zf (pv 10) zb)))) zb))))))
    zu)))
  (zc (seT 11 zT (zr zp (zr zp (zr zp (zr zp (zr zp (zr zp v3 zi) v4) zi) v2) zi) v2))
  (zc (seT 12 zT (zr zp (zr zp (zr zp (zr zp zi (pv 11)) zi) (ixT v0 zd)) zi))
  (zc (seT 13 zT (zB (zo zi (zf v3 (zf v4 (yy (zr zp zi v2) (yy (zr zp zi v2) (zj (ixT v0 zd) zb))))))))
  (zg (zt (zB (zf (pv 13) (zf (pv 12) (jM (zw (zf v3 (yy (zr zp zi v2) (yy (zr zp zi v2) zb)))) (zf (pv 7) zb)))))))))))))))),?_⟩
 generalize hK0:K=K1
 revert K1
 refine jq (by walk_at "cl") ?_;refine !(zh h1 jr (!(!(zh h1 jr ⟨hp,!⟨.inl (SqL.of d),ex2 rfl rfl ⟨hlen,zx d ea ?_⟩⟩⟩))));refine !(zh h1 jr (!(ex2 rfl rfl ⟨⟨by decide,by decide⟩,!(zh h1 jr ⟨hp,!⟨.inl (SqL.of d),ex2 rfl rfl ⟨hlen,zx d eb ?_⟩⟩⟩)⟩)));refine !(zh h1 jr ⟨.inl ⟨rfl,_,SqL.of d⟩,!⟨hp,_,_,(za th q).idxOf a,rfl,rfl,SqL.of d,rfl,jo _,ia.1,ia.2,?_⟩⟩);refine !(zh h1 jr ⟨.inl ⟨rfl,_,SqL.of d⟩,!⟨hp,_,_,(za th q).idxOf b,rfl,rfl,SqL.of d,rfl,jo _,ib.1,ib.2,?_⟩⟩);have bD:∀r∈rs,r.2.length=(za th q).length:=λr m=>dZ r.2 (by rw [<-Z];exact qI.mpr ⟨_,m,rfl⟩)
 have oQ:∀r∈rs,(za th q).idxOf a < r.2.length:=λr m=>by rw [bD r m];exact qX.mpr J
 have sP:∀r∈rs,(za th q).idxOf b < r.2.length:=λr m=>by rw [bD r m];exact qX.mpr mb
 generalize hsa:(za th q).idxOf a=sa at oQ;generalize hsb:(za th q).idxOf b=t at sP;refine⟨(zq rfl),λl c7=> ?_⟩;refine ze (upd _ l _) rfl c7 λH1 Y x1=> ?_
 have Dq:∀r∈rs,r.1≠l:=λr m=>zy (o.2 r m).2 c7
 refine !(zh (Y _ _ h1) z1L ⟨rp,rfl,⟨_,SqL.of (Y _ _ o.1)⟩,z0B (K:=K) (a:=rp) (xs:=refs rs) (λi σ H'=>∃(qs:List (Addr×List Int)) (o8 o9 oR:Option V),σ= [some (.ref p),some (.int a9),some (.str g),some (.str a),some (.str b),some (.int ((sa:Nat):Int)),some (.int ((t:Nat):Int)),some (.ref l),o8,o9,oR,none,none,none]/\zz H H'/\RowsAt H' l qs/\
  qs.map (·.2)=(z0P sa ((rs.map (·.2)).take i)).map (z44 sa t (rs.map (·.2)))) ⟨[],none,none,none,rfl,Y,ky x1,rfl⟩ (λi σ H' _ ⟨_,_,_,_,_,sm,_⟩=>SqL.of (sm _ _ o.1)) ?_ ?_⟩)
 ·rintro i x σ H2 hi ⟨qs,o8,o9,oR,rfl,s2,w2,c⟩;have u:i < rs.length:=by
   have:=(wk.mp hi).1
   rwa [L]at this
  rw [z0c u]at hi;cases hi;have kl:(z0P sa ((rs.map (·.2)).take i)).length<=100000:=by
   have:=z5J (s:=sa) ((rs.map (·.2)).take i);rw [wX,w9]at this
   lia
  have lq:qs.length=(z0P sa ((rs.map (·.2)).take i)).length:=by
   have:=Qj List.length c
   rwa [w9,w9]at this
  have gQ:(refs qs).length=qs.length:=w9 _;have D:=z7K (s:=sa) (z4G u);have hR:=s2 _ _ (o.2 _ (wI u)).2;have oS:=oQ _ (wI u);have qk:qs.map (λr=>r.2.getD 0 0)=z0P sa ((rs.map (·.2)).take i):=by
   have:=Qj (List.map λr:List Int=>r.getD 0 0) c;rw [w11,w11]at this;refine this.trans ?_
   conv=>rhs;rw [<-List.map_id (z0P sa ((rs.map (·.2)).take i))]
   rfl
  have q3:∀r∈qs,r.2.length=3:=λr m=>by
   have:r.2∈qs.map (·.2):=qI.mpr ⟨r,m,rfl⟩;rw [c]at this;obtain⟨k,_,e⟩:=qI.mp this;rw [<-e]
   rfl
  generalize z0P sa ((rs.map (·.2)).take i)=ks at c kl lq D qk;refine !(!(zx hR (zN (int_at oS)) (!⟨l,rfl,⟨_,SqL.of w2.1⟩,?_⟩)));refine jH (xs:=refs qs) (λm ys H'=>H'=H2/\ys=((qs.take m).map λr=>r.2.getD 0 0).map V.int) ⟨rfl,rfl⟩ ?_ ?_ ?_
  ·rintro m ys B hm ⟨rfl,rfl⟩;exact⟨SqL.of w2.1,zK (by rw [w9,w9,wX];lia)⟩
  ·rintro m x ys B hm ⟨rfl,rfl⟩;have N:m < qs.length:=by
    have:=(wk.mp hm).1
    rwa [gQ]at this
   rw [z0c N]at hm;cases hm;refine !(zx ((w2.2 _ (wI N)).2) (zN (j:=0) (int_at (by rw [q3 _ (wI N)];decide))) ⟨rfl,?_⟩);rw [q5,we N,wK,wK]
   rfl
  ·rintro ys B ⟨rfl,rfl⟩ lp ai;rw [gQ,qH,qk];refine ze (upd _ lp _) rfl ai λB U x3=> ?_
   refine⟨lp,!⟨.inl (SqL.of x3),rfl,z9R _,!?_⟩⟩;rw [z8i];have X:=s2.trans U;have w3:=w2.same U;refine kC (λhb=> ?_) (λhb=> ?_)
   ·have cC:¬rs[i].2.getD sa 0∈ks:=by simpa using hb
    rw [wU cC]at D;have O:=o.same X;refine !(zh (X _ _ h1) z1L ⟨rp,rfl,⟨_,SqL.of O.1⟩,?_⟩);refine kI (xs:=refs rs) (λm ys H'=>H'=B/\ys=refs ((rs.take m).filter λr=>decide (r.2.getD sa 0=rs[i].2.getD sa 0))) ⟨rfl,rfl⟩ ?_ ?_ ?_
    ·rintro m ys G hm ⟨rfl,rfl⟩;refine⟨SqL.of O.1,zK ?_⟩;have:=qE (λr:Addr×List Int=>decide (r.2.getD sa 0=rs[i].2.getD sa 0)) (rs.take m);rw [w9];rw [wX]at this
     lia
    ·rintro m x ys G hm ⟨rfl,rfl⟩;have R:m < rs.length:=by
      have:=(wk.mp hm).1
      rwa [L]at this
     rw [z0c R]at hm;cases hm;have ft:=z1X (λr:Addr×List Int=>decide (r.2.getD sa 0=rs[i].2.getD sa 0)) rs (we R);refine !(!(zx ((O.2 _ (wI R)).2) (zN (int_at (oQ _ (wI R)))) (!(!(zx ((O.2 _ (wI u)).2) (zN (int_at oS)) ⟨rfl,!?_⟩)))));rw [z46];refine kC (λhc=> ?_) (λhc=> ?_)
     ·refine !⟨rfl,?_⟩;rw [ft,wY hc];simp [refs]
     ·refine⟨rfl,?_⟩;rw [ft,wU hc,Q3]
    ·rintro ys G ⟨rfl,rfl⟩ mp oT;rw [L,qH];refine ze (upd _ mp _) rfl oT λG I y=> ?_
     have s4:=X.trans I;have fl:(rs.filter λr=>decide (r.2.getD sa 0=rs[i].2.getD sa 0)).length<=rs.length:=qE _ _;have fm:∀r∈rs.filter (λr=>decide (r.2.getD sa 0=rs[i].2.getD sa 0)),r∈rs:=λr m=>(Qz.mp m).1
     have fe:(rs.filter λr=>decide (r.2.getD sa 0=rs[i].2.getD sa 0)).map (·.2)=(rs.map (·.2)).filter λr=>decide (r.getD sa 0=rs[i].2.getD sa 0):=by
      rw [w0o]
      rfl
     generalize (rs.filter λr=>decide (r.2.getD sa 0=rs[i].2.getD sa 0))=fs at y fl fm fe;have oU:(refs fs).length=fs.length:=w9 _;have j4:=o.same s4;refine !⟨mp,rfl,⟨_,SqL.of y⟩,?_⟩;refine jH (xs:=refs fs) (λm ys H'=>H'=G/\ys=((fs.take m).map λr=>r.2.getD t 0).map V.int) ⟨rfl,rfl⟩ ?_ ?_ ?_
     ·rintro m ys S hm ⟨rfl,rfl⟩;exact⟨SqL.of y,zK (by rw [w9,w9,wX];lia)⟩
     ·rintro m x ys S hm ⟨rfl,rfl⟩;have oV:m < fs.length:=by
       have:=(wk.mp hm).1
       rwa [oU]at this
      rw [z0c oV]at hm;cases hm;have mr:=fm _ (wI oV);refine !(!(zx ((j4.2 _ mr).2) (zN (int_at (sP _ mr))) ⟨rfl,?_⟩));rw [q5,we oV,wK,wK]
      rfl
     ·rintro ys S ⟨rfl,rfl⟩ tp aF;rw [oU,qH];refine ze (upd _ tp _) rfl aF λS n M=> ?_
      refine⟨tp,!⟨SqL.of M,?_⟩⟩;have z:=s4.trans n;have w5:=w3.same (I.trans n);refine !⟨.inl ⟨rfl,_,SqL.of w5.1⟩,!(!(zx (z _ _ (o.2 _ (wI u)).2) (zN (int_at oS)) (!⟨mp,!⟨.inl (SqL.of (n _ _ y)),!⟨(zq rfl),λgp C=> ?_⟩⟩⟩)))⟩;have n6:=zJ C (.lst [V.int (rs[i].2.getD sa 0),V.int (((refs fs).length:Nat):Int),V.int (fs.map λr=>r.2.getD t 0).sum]);have w6:=w5.same n6;refine⟨l,ex2 rfl rfl ⟨w6.1,zK (by rw [w9];lia),?_⟩⟩;have nq:gp≠l:=(zy w5.1 C).symm;refine⟨qs ++ [(gp,[rs[i].2.getD sa 0,((fs.length:Nat):Int),(fs.map λr=>r.2.getD t 0).sum])],_,_,!⟨(z.trans n6).put c7,w6.push nq (by rw [zl,oU];rfl),?_⟩⟩;rw [wK,c,D,wK]
      congr 1
      show [_]= [z44 sa t (rs.map (·.2)) (rs[i].2.getD sa 0)]
      unfold z44;rw [<-fe,w9,w11]
      rfl
   ·have cC:rs[i].2.getD sa 0∈ks:=by simpa using hb
    rw [wY cC]at D;refine⟨qs,_,_,!⟨X,w3,?_⟩⟩;rw [c,D]
 ·rintro σ H2 ⟨qs,o8,o9,oR,rfl,s2,w2,c⟩;rw [L,show(rs.map (·.2)).take rs.length=rs.map (·.2)from Qy (by rw [w9];exact wu _)]at c;have g1:=s2 _ _ h1;refine !(ex2 rfl rfl ⟨by(walk_at "sl"),!(ex2 rfl rfl ⟨by(walk_at "sl"),ex2 rfl rfl ⟨by(walk_at "sl"),!(ex2 rfl rfl ⟨by(walk_at "sl"),ex2 rfl rfl ⟨by(walk_at "sl"),!(ex2 rfl rfl ⟨by(walk_at "sl"),?_⟩)⟩⟩)⟩⟩)⟩);refine !(ex2 rfl rfl ⟨by(walk_at "sl"),ex2 rfl rfl ⟨by(walk_at "sl"),!(zh g1 j6 (ex2 rfl rfl ⟨by(walk_at "sl"),ex2 rfl rfl ⟨by(walk_at "sl"),?_⟩⟩))⟩⟩);refine !(!(!(ex2 rfl rfl ⟨by(walk_at "sl"),!(ex2 rfl rfl ⟨by(walk_at "sl"),!(zh g1 zF ⟨(zq rfl),λqp cJ=> ?_⟩)⟩)⟩)));refine ze (upd _ qp _) rfl cJ λB U x3=> ?_
  refine !(!(!(!(ex2 rfl rfl ⟨by(walk_at "sl"),!(ex2 rfl rfl ⟨by(walk_at "sl"),(zq rfl),λlp ai=> ?_⟩)⟩))));refine ze (upd _ lp _) rfl ai λG I y=> ?_
  refine !⟨(zq rfl),λsp aq=> ?_⟩;refine ze (upd _ sp _) rfl aq λS n M=> ?_
  have iF:=U.trans (I.trans n);have z:=s2.trans iF;have el:(("(group ":Str) ++ (a ++ " " ++ b ++ " n" ++ g ++ " s" ++ g) ++ " " ++ zD q ++ ")":Str)=zD (.group a b (("n":Str) ++ g) (("s":Str) ++ g) q):=by
   simp only [zD];have e1:(" n":Str)=(" ":Str) ++ ("n":Str):=by decide +kernel
   have c:(" s":Str)=(" ":Str) ++ ("s":Str):=by decide +kernel
   rw [e1,c];simp only [Str.append_assoc]
  rw [el]at M;refine fin _ a b _ z ⟨sp,_,lp,l,qs,rfl,M,⟨qp,qv,rfl,n _ _ (I _ _ x3),h2.same z⟩,n _ _ y,w2.same iF,?_⟩ J mb;rw [c,Z];simp only [rowsOf,zae,hsa,hsb]
noncomputable def zv:Qn->Nat
 | .table _=>1
 | .pick _ q | .cols _ q | .first _ q | .group _ _ _ _ q | .sort _ q=>zv q
 | .pair q r | .join _ _ q r | .both q r=>zv q + zv r
theorem yF(q:Qn):1<=zv q:=by induction q <;> simp only [zv] <;> lia
def z2h(th:Str->List Str)(tr:Str->List (List Int)):Qn->Prop
 | .table n=>(tr n).length<=60
 | .pick _ q | .cols _ q | .first _ q | .group _ _ _ _ q | .sort _ q=>z2h th tr q
 | .pair q r | .join _ _ q r=>z2h th tr q/\z2h th tr r/\(rowsOf th tr q).length * (rowsOf th tr r).length<=60
 | .both q r=>z2h th tr q/\z2h th tr r/\(rowsOf th tr q).length + (rowsOf th tr r).length<=60
theorem z8Y(T:TabOk th tr):∀n∈tabs,(tr n).length<=60:=by
 intro n hn;simp only [tabs,wH,qz,QD]at hn;rcases hn with rfl | rfl | rfl
 ·exact T.ct
 ·have:=T.cw;lia
 ·have:=T.cx;lia
structure Rt(th:Str->List Str)(tr:Str->List (List Int))(n:Str)(r:Qn)(k:Nat):Prop where
 ok:okQ th r
 hd:za th r=th n
 ln:(rowsOf th tr r).length<=(tr n).length
 li:(zD r).length<=10 + 100 * k
 dp:depth r<=1 + 2 * k
 sub:z2h th tr r
 lv:zv r=1
structure Un2(th:Str->List Str)(tr:Str->List (List Int))(q:Qn)(n:Str)(q':Qn):Prop where
 ok:okQ th q'
 hd:za th q'=za th q ++ th n\/za th q'=th n ++ za th q
 ln:(rowsOf th tr q').length<=(rowsOf th tr q).length * (tr n).length
 li:(zD q').length<=(zD q).length + 600
 dp:depth q'<=max (depth q) 5 + 2
 nt:∀m,q'≠ .table m
 sub:z2h th tr q->(rowsOf th tr q).length * (tr n).length<=60->z2h th tr q'
 lv:zv q'=zv q + 1
theorem pairs_len(xs ys:List (List Int)):(pairs xs ys).length=xs.length * ys.length:=by
 unfold pairs
 induction xs with
 | nil=>simp
 | cons x xs a=>
  rw [w0h,wg,w9,a,wP,w07,w1i,Nat.add_comm]
theorem z84{xs ys:List (List Int)}(h:xs[i]? =some x):pairs (xs.take (i + 1)) ys=pairs (xs.take i) ys ++ ys.map λy=>x ++ y:=by
 unfold pairs;rw [q5,h,w0O];simp
theorem z5p(s:Nat)(rows:List (List Int)):(z06 s rows).length=rows.length:=by
 unfold z06;rw [w9,z7S]
inductive spUnited (K:W.Frag) (vs:List V) (H:Hp) (Q:VK) (E:XK):Prop
 | mk:∀th tr q n v tv a9,vs= [v,tv,.int a9]->TabOk th tr->kE th tr H v q->okQ th q->TabAt th tr H tv n->n∈tabs->(∀x∈za th q,x∉th n)->(zD q).length<=4000000->(rowsOf th tr q).length<=1000->(tr n).length < 64->(za th q).length<=1000->(th n).length<=1000->(∀(v':V) (q':Qn) (H':Hp),zz H H'->kE th tr H' v' q'->Un2 th tr q n q'->Q v' H')->spUnited K vs H Q E
theorem zbl:∀n∈tabs,n.length<=10:=by decide +kernel
theorem z8M{r:List Int}(h:s∈hs)(hl:r.length=hs.length):hs.idxOf s < r.length:=by rw [hl];exact qX.mpr h
theorem zA:FnScope ["_law_state","_law_table","_law_seed","_law_left","_law_right","_law_heads","_law_rows","_law_one","_law_two","_law_name","_law_other","_law_line","_law_question","_law_spot","_law_place","_law_same"] ["_law_state","_law_table","_law_seed"] (zm z01):=by walk_at "s"
set_option maxHeartbeats 1600000 in
theorem z4c(F:Fun K "_law_united" "_law_united" z01 f fd)(T:Txt K mg)(p:Kn P w K mg base 1 "_law_sorted" ["_law_state","_law_seed"] (spSorted K))(s:Kn P w K mg base 1 "_law_headed" ["_law_state","_law_seed"] (spHeaded K)):FnOk P w K mg base CX0 2 f fd ["_law_state","_law_table","_law_seed"] (spUnited K):=by
 refine F.okB zA (λvs H Q E h=> ?_) (λvs H Q E h=> ?_)
 ·obtain⟨th,tr,q,n,v,tv,a9,rfl,_⟩:=h
  rfl
 obtain⟨th,tr,q,n,v,tv,a9,rfl,TT,aK,hok,ht,mn,dj,fW,bK,xk,gP,sQ,fin⟩:=h;obtain⟨tp,sR,oW,ts,rfl,t1,t3,t4,t5⟩:=ht;have nl:=zbl n mn;intro ad A outer sh hr;have hu:=z1x hr;refine⟨_,(zc (seT 3 zA v0)
  (zc (seT 4 zA (zB (zH (zB (zo zi (zj (ixT v1 zd) zb))) (zj (ixT v1 zd) (zj (ixT v1 zd) (zj (ixT v1 zd) zb))))))
  (zc (z0f (cmT zM (zr zZ v2 zd) zd)
   (zg (seT 4 zA (zW p hr.m (zf v4 (yy (zr yn v2 zd) zb)))))
   zu)
  (zc (z0f (cmT zM (zr zZ v2 zd) zd)
   (zg (seT 4 zA (zW s hr.m (zf v4 (zo zd zb)))))
   zu)
  (zc (z0f (cmT zM (zr zZ (zr yn v2 zd) zd) zd)
   (zc (seT 3 zA v4)
   (zg (seT 4 zA v0)))
   zu)
  (zc (seT 5 zA (zr kH (ixT v3 zd) (ixT v4 zd)))
  (zc (seT 6 zA (zw zb))
  (zc (foR (jb (ixT v3 zd)) (gnM 7 zA)
   (zg (foR (jb (ixT v4 zd)) (gnM 8 zA)
    (zg (jh (apP (pv 6) (yy (zr kH (pv 7) (pv 8)) zb)))))))
  (zc (seT 9 zA (ixL (ixT v3 zd) (zr zZ (zr yn v2 zd) (leN T.len (zj (ixT v3 zd) zb)))))
  (zc (seT 10 zA (ixL (ixT v4 zd) (zr zZ (zr yn v2 zd) (leN T.len (zj (ixT v4 zd) zb)))))
  (zc (seT 11 zA (zr zp (zr zp (zr zp (zr zp zi (ixT v3 zd)) zi) (ixT v4 zd)) zi))
  (zc (seT 12 zA (zB (zo zi (zj (ixT v3 zd) (zj (ixT v4 zd) zb)))))
  (zc (zC (cmT zM (zr zZ v2 zd) zd)
   (zg (zt (zB (zf (pv 12) (zf (pv 11) (zf v5 (zf (pv 6) zb)))))))
   zu)
  (zc (kf (i:=13) zA.nd rfl (QO rfl) (z1z qB Qf Qu z0D v5 (zf (pv 9) zb)))
  (zc (kf (i:=14) zA.nd rfl (QO rfl) (z1z qB Qf Qu z0D v5 (zf (pv 10) zb)))
  (zc (jG (j:=15) rfl zA.nd rfl (w02 rfl) (CompSc.of (sx:=zm z01) (NX:= ["_law_state","_law_table","_law_seed","_law_left","_law_right","_law_heads","_law_rows","_law_one","_law_two","_law_name","_law_other","_law_line","_law_question","_law_spot","_law_place","_law_same"]) (fr:= ["_law_spot","_law_place"]) (ix:= [13,14]) rfl rfl (by decide +kernel)) (jb (pv 6)) (λ_ _ _ _ _ _=>(z0s (cmT zM (yD (kB (K:=K) rfl) v0 v1 (λ_ _=>rfl)) (yD (kB (K:=K) rfl) v0 v2 (λ_ _=>rfl))))) (λ_ _ _ _ _ _=>v0))
  (zc (zC (z5T (cmT (z1M hu) (pv 15) (zw zb)) (cmT z8a (zr zZ v2 zd) zd))
   (zg (zt (zB (zf (pv 12) (zf (pv 11) (zf v5 (zf (pv 6) zb)))))))
   zu)
  (zc (seT 6 zA (pv 15))
  (zc (z0f (cmT zM (zr zZ v2 zd) zd)
   (zc (seT 11 zA (zr zp (zr zp (zr zp (zr zp (zr zp (zr zp (zr zp (zr zp zi (pv 9)) zi) (pv 10)) zi) (ixT v3 zd)) zi) (ixT v4 zd)) zi))
   (zg (seT 12 zA (zB (zo zi (zf (pv 9) (zf (pv 10) (zj (ixT v3 zd) (zj (ixT v4 zd) zb)))))))))
   (zg (zC (cmT zM (zr zZ v2 zd) zd)
    (zc (seT 11 zA (zr zp (zr zp (zr zp (zr zp (zr zp (zr zp zi (pv 10)) zi) (pv 9)) zi) (pv 11)) zi))
    (zg (seT 12 zA (zB (zo zi (zH (zB (zo zi (zf (pv 10) (zf (pv 9) zb)))) (zf (pv 12) zb)))))))
    (zc (seT 11 zA (zr zp (zr zp (zr zp (zr zp (zr zp (zr zp zi (pv 9)) zi) (pv 10)) zi) (pv 11)) zi))
    (zg (seT 12 zA (zB (zo zi (zH (zB (zo zi (zf (pv 9) (zf (pv 10) zb)))) (zf (pv 12) zb))))))))))
  (zg (zt (zB (zf (pv 12) (zf (pv 11) (zf v5 (zf (pv 6) zb)))))))))))))))))))))))))),?_⟩
 generalize hK0:K=K1
 revert K1
 refine jq (by walk_at "cl") ?_;refine !?_;refine !(zh t1 zF ⟨(zq rfl),λqp cJ=> ?_⟩);refine ze (upd _ qp _) rfl cJ λH1 n1 x1=> ?_
 have fZ:=n1 _ _ t1;refine !(zh fZ zF (!(zh fZ j6 (!(zh fZ jr ⟨(zq rfl),λac ae=> ?_⟩)))));refine ze (upd _ ac _) rfl ae λH2 n2 x2=> ?_
 have s2:=n1.trans n2;have bC:kE th tr H2 (.ref ac) (.table n):=⟨ac,_,sR,oW,ts,rfl,x2,⟨qp,rfl,n2 _ _ x1⟩,s2 _ _ t3,t4.same s2,t5⟩;have g6:Rt th tr n (.table n) 0:=⟨mn,rfl,wu _,nl,wu _,z8Y TT n mn,rfl⟩;refine exJ (λσ H3=>∃(rv:V) (r:Qn),σ= [some v,some (.ref tp),some (.int a9),some v,some rv,none,none,none,none,none,none,none,none,none,none,none]/\zz H H3/\kE th tr H3 rv r/\Rt th tr n r 1) (λJ G=> ?_) ?_
 ·refine !(ex2 rfl rfl ⟨(by show(0:Int) < 7;decide),rfl,!?_⟩);refine kC (λhb=> ?_) (λhb=> ?_)
  ·refine !(!(ex2 rfl rfl ⟨⟨by decide,by decide⟩,th,tr,.table n,_,_,rfl,TT,bC,mn,by have:(zD (.table n)).length<=10:=nl;lia,xk,λv' a H' s' ax ma=> ?_⟩));refine G _ _ ⟨v',!⟨s2.trans s',ax,⟨ma,mn⟩,rfl,by show(z06 _ _).length<=_;rw [z5p];exact wu _,?_,by show 1 + 1<=1 + 2 * 1;decide,z8Y TT n mn,rfl⟩⟩;have la:=z5s TT n mn a ma;simp only [zD]
   (walk_at "sl")
  ·exact G _ _ ⟨_,!⟨s2,bC,g6.ok,g6.hd,g6.ln,by have:=g6.li;lia,by have:=g6.dp;lia,g6.sub,g6.lv⟩⟩
 rintro σ H3 ⟨rv,r,rfl,s3,aE,l⟩;refine exJ (λσ H4=>∃(rv:V) (r:Qn),σ= [some v,some (.ref tp),some (.int a9),some v,some rv,none,none,none,none,none,none,none,none,none,none,none]/\zz H H4/\kE th tr H4 rv r/\Rt th tr n r 2) (λJ G=> ?_) ?_
 ·refine !(ex2 rfl rfl ⟨(by show(0:Int) < 7;decide),rfl,!?_⟩);refine kC (λhb=> ?_) (λhb=> ?_)
  ·refine !⟨th,tr,r,_,_,rfl,aE,by have:=l.li;lia,λv' q' H' s' ax cA=> ?_⟩;refine G _ _ ⟨v',q',rfl,s3.trans s',ax,?_⟩;obtain⟨m,mm,cA⟩:=cA;have lm:=(z07 m mm).1;have Ds:=l.li;have Dt:=l.dp;rcases cA with rfl | ⟨m',eQ,rfl⟩
   ·refine⟨⟨mm,l.ok⟩,l.hd,?_,?_,?_,l.sub,l.lv⟩
    ·show((rowsOf th tr r).take _).length<=_
     rw [wX];have:=l.ln
     lia
    ·simp only [zD]
     (walk_at "sl")
    ·show depth r + 1<=_
     lia
   ·have Du:=(z07 m' eQ).1;refine⟨⟨eQ,mm,l.ok⟩,l.hd,?_,?_,?_,l.sub,l.lv⟩
    ·show(((rowsOf th tr r).take _).take _).length<=_
     rw [wX,wX];have:=l.ln
     lia
    ·simp only [zD]
     (walk_at "sl")
    ·show depth r + 1 + 1<=_
     lia
  ·exact G _ _ ⟨_,!⟨s3,aE,l.ok,l.hd,l.ln,by have:=l.li;lia,by have:=l.dp;lia,l.sub,l.lv⟩⟩
 clear aE l;rintro σ H4 ⟨rv,r,rfl,s4,fB,B⟩;have Dv:=B.li;have Dw:=B.dp;have sS:=B.ln;have sU:∀x∈za th q,x∉za th r:=by rw [B.hd];exact dj
 have iM:=aK.same s4;have Dx:(zD r).length<=300:=by lia
 refine exJ (λσ H5=>∃(lv wv:V) (c d:Qn),σ= [some v,some (.ref tp),some (.int a9),some lv,some wv,none,none,none,none,none,none,none,none,none,none,none]/\H5=H4/\kE th tr H4 lv c/\kE th tr H4 wv d/\okQ th c/\okQ th d/\(∀x∈za th c,x∉za th d)/\(zD c).length + (zD d).length<=(zD q).length + 300/\
  (rowsOf th tr c).length * (rowsOf th tr d).length<=(rowsOf th tr q).length * (tr n).length/\(rowsOf th tr c).length<=1000/\(rowsOf th tr d).length<=1000/\(za th c).length<=1000/\(za th d).length<=1000/\(za th c ++ za th d=za th q ++ th n\/za th c ++ za th d=th n ++ za th q)/\max (depth c) (depth d)<=max (depth q) 5/\(z2h th tr q->z2h th tr c/\z2h th tr d)/\zv c + zv d=zv q + 1) (λJ G=> ?_) ?_
 ·refine !(ex2 rfl rfl ⟨⟨by decide,by decide⟩,ex2 rfl rfl ⟨(by show(0:Int) < 2;decide),rfl,!?_⟩⟩);refine kC (λhb=> ?_) (λhb=> ?_)
  ·refine !?_;refine !?_;refine G _ _ ⟨_,_,r,q,rfl,rfl,fB,iM,B.ok,hok,λx hx hy=>sU x hy hx,by lia,?_,by lia,bK,by rw [B.hd];exact sQ,gP,.inr (by rw [B.hd]),by lia,λh=>⟨B.sub,h⟩,by rw [B.lv,Nat.add_comm]⟩;rw [Nat.mul_comm];exact QE _ sS
  ·exact G _ _ ⟨_,_,q,r,rfl,rfl,iM,fB,hok,B.ok,sU,by lia,QE _ sS,bK,by lia,gP,by rw [B.hd];exact sQ,.inl (by rw [B.hd]),by lia,λh=>⟨h,B.sub⟩,by rw [B.lv]⟩
 rintro σ H5 ⟨lv,wv,c,d,rfl,rfl,xm,str,iN,fC,sV,Dy,mL,sW,sX,eB,aD,gL,Dz,gR,oX⟩;have sY:=jA TT iN;have sZ:=jA TT fC;have xn:=j8 TT iN;have xo:=j8 TT fC;have xq:=jK TT iN;have xt:=jK TT fC;obtain⟨p1,iG,cQ,iE,t,rfl,a1,a2,a3,a4,a5⟩:=xm;obtain⟨p2,bZ,bX,gO,u,rfl,b1,b2,b3,b4,b5⟩:=str;have l1:t.length<=1000:=by rw [<-a5,w9]at sW;exact sW
 have l2:u.length<=1000:=by rw [<-b5,w9]at sX;exact sX
 have iO:(refs t).length=t.length:=w9 _;have g7:(refs u).length=u.length:=w9 _;have w1:∀r∈t,r.2.length=(za th c).length:=λr m=>xq r.2 (by rw [<-a5];exact qI.mpr ⟨_,m,rfl⟩)
 have w2:∀r∈u,r.2.length=(za th d).length:=λr m=>xt r.2 (by rw [<-b5];exact qI.mpr ⟨_,m,rfl⟩)
 refine !(zh a1 jr (!(zh b1 jr ⟨_,_,ex2 rfl rfl ⟨a3,b3,je (by rw [w9,w9];lia),λhp cj=> ?_⟩⟩)));rw [<-wK];refine ze (upd _ hp _) rfl cj λH6 n6 x6=> ?_
 refine⟨(zq rfl),λL c7=> ?_⟩;refine ze (upd _ L _) rfl c7 λH7 n7 x7=> ?_
 have t9:=n6.trans n7;have f5:H5 L=none:=n6.free c7;refine !(zh (t9 _ _ a1) z1L ⟨iE,rfl,⟨_,SqL.of (t9 _ _ a4.1)⟩,z6l (K:=K) (a:=iE) (xs:=refs t) (λi σ H'=>∃(ds:List (Addr×List Int)) (o7 X:Option V),σ= [some v,some (.ref tp),some (.int a9),some (.ref p1),some (.ref p2),some (.ref hp),some (.ref L),o7,X,none,none,none,none,none,none,none]/\zz H6 H'/\RowsAt H' L ds/\
  ds.map (·.2)=pairs ((t.map (·.2)).take i) (u.map (·.2))/\ds.length<=i * 1000) ⟨[],none,none,rfl,n7,ky x7,rfl,wu _⟩ (λi σ H' _ ⟨_,_,_,_,sm,_⟩=>SqL.of (sm _ _ (n6 _ _ a4.1))) ?_ ?_⟩)
 ·rintro i x σ H8 D hN _ hi ⟨ds,o7,X,rfl,s8,hd,ed,ld⟩;have Y:i < t.length:=by
   have:=(wk.mp hi).1
   rwa [iO]at this
  rw [z0c Y]at hi;cases hi;have U:=n6.trans s8;refine !(zh (U _ _ b1) z1L ⟨gO,rfl,⟨_,SqL.of (U _ _ b4.1)⟩,z6l (K:=K) (a:=gO) (xs:=refs u) (λj σ H'=>∃(ds:List (Addr×List Int)) (X:Option V),σ= [some v,some (.ref tp),some (.int a9),some (.ref p1),some (.ref p2),some (.ref hp),some (.ref L),some (.ref t[i].1),X,none,none,none,none,none,none,none]/\zz H6 H'/\RowsAt H' L ds/\
   ds.map (·.2)=pairs ((t.map (·.2)).take i) (u.map (·.2)) ++ ((u.map (·.2)).take j).map (λo=>t[i].2 ++ o)/\ds.length<=i * 1000 + j) ⟨ds,X,rfl,s8,hd,by rw [ed];simp,by lia⟩ (λj σ H' _ ⟨_,_,_,sm,_⟩=>SqL.of (sm _ _ (n6 _ _ b4.1))) ?_ ?_⟩)
  ·rintro j y σ H9 D2 hM _ hj ⟨ds,X,rfl,s9,hd,ed,ld⟩;have mM:j < u.length:=by
    have:=(wk.mp hj).1
    rwa [g7]at this
   rw [z0c mM]at hj;cases hj;have g8:=n6.trans s9;have hR:=g8 _ _ (a4.2 _ (wI Y)).2;have hO:=g8 _ _ (b4.2 _ (wI mM)).2;have tj:=w1 _ (wI Y);have cV:=w2 _ (wI mM);refine !⟨.inl ⟨rfl,_,SqL.of hd.1⟩,!(!⟨_,_,ex2 rfl rfl ⟨hR,hO,je (by rw [w9,w9];lia),λq1 mN=> ?_⟩⟩)⟩;have nn:=zJ mN (.lst (t[i].2.map V.int ++ u[j].2.map V.int));have gS:=hd.same nn;refine⟨L,ex2 rfl rfl ⟨gS.1,zK (by rw [w9];lia),?_⟩⟩;have nq:q1≠L:=(zy hd.1 mN).symm;refine hM _ _ ⟨ds ++ [(q1,t[i].2 ++ u[j].2)],!⟨(s9.trans nn).put c7,gS.push nq (by rw [zl,wK]),?_,by rw [wg,wJ];lia⟩⟩;rw [wK,ed,q5,z4G mM,wK,Qv]
   rfl
  ·rintro σ H9 ⟨ds,X,rfl,s9,hd,ed,ld⟩;refine hN _ _ ⟨ds,_,!⟨s9,hd,?_,by rw [g7]at ld;lia⟩⟩;rw [ed,z84 (z4G Y),g7,show(u.map (·.2)).take u.length=u.map (·.2)from Qy (by rw [w9];exact wu _)]
 rintro σ H8 ⟨ds,o7,X,rfl,s8,hd,ed,ld⟩;rw [iO,show(t.map (·.2)).take t.length=t.map (·.2)from Qy (by rw [w9];exact wu _),a5,b5]at ed;have U:=n6.trans s8;have DA:=s4.trans U;have x8:=s8 _ _ x6;have a8:=U _ _ a1;have b8:=U _ _ b1;have iP:(0:Int) < ((((za th c).map V.str).length:Nat):Int):=by
  have:=QU.mpr sY.1;rw [w9];lia
 have iQ:(0:Int) < ((((za th d).map V.str).length:Nat):Int):=by
  have:=QU.mpr sZ.1;rw [w9];lia
 obtain⟨a,ma,ea⟩:=z1r (i:=a9 / 8) sY.1;obtain⟨b,mb,eb⟩:=z1r (i:=a9 / 2) sZ.1;have la:=xn a ma;have lb:=xo b mb;refine !(zh a8 jr (!(ex2 rfl rfl ⟨⟨by decide,by decide⟩,!(zh a8 jr ⟨cQ,!⟨.inl (SqL.of (U _ _ a3)),ex2 rfl rfl ⟨iP,zx (U _ _ a3) ea ?_⟩⟩⟩)⟩)));refine !(zh b8 jr (!(ex2 rfl rfl ⟨⟨by decide,by decide⟩,!(zh b8 jr ⟨bX,!⟨.inl (SqL.of (U _ _ b3)),ex2 rfl rfl ⟨iQ,zx (U _ _ b3) eb ?_⟩⟩⟩)⟩)));refine !(zh a8 j6 (ex2 rfl rfl ⟨by(walk_at "sl"),ex2 rfl rfl ⟨by(walk_at "sl"),!(zh b8 j6 (ex2 rfl rfl ⟨by(walk_at "sl"),ex2 rfl rfl ⟨by(walk_at "sl"),?_⟩⟩))⟩⟩));refine !(zh a8 zF (!(zh b8 zF ⟨(zq rfl),λpp ao=> ?_⟩)));refine ze (upd _ pp _) rfl ao λH9 n9 x9=> ?_
 have g8:=U.trans n9;have oY:QAt H9 (.pair c d) (.ref pp):=⟨pp,iG,bZ,rfl,x9,a2.same g8,b2.same g8⟩;have iR:=hd.same n9;have xu:(zD (.pair c d)).length<=(zD q).length + 310:=by simp only [zD];(walk_at "sl")
 have tz:ds.map (·.2)=rowsOf th tr (.pair c d):=ed;have iS:(rowsOf th tr (.pair c d)).length<=(rowsOf th tr q).length * (tr n).length:=by show(pairs _ _).length<=_;rw [pairs_len];exact mL
 have oZ:okQ th (.pair c d):=⟨sV,iN,fC⟩;have xv:depth (.pair c d)<=max (depth q) 5 + 1:=by show max _ _ + 1<=_;lia
 have xw:Un2 th tr q n (.pair c d):=⟨oZ,gL,iS,by lia,by lia,λ_=>nofun,λh hp=>⟨(gR h).1,(gR h).2,wW mL hp⟩,oX⟩;have xx:∀r∈ds,r.2.length=(za th c ++ za th d).length:=λr m=>jK TT oZ r.2 (by rw [<-tz];exact qI.mpr ⟨_,m,rfl⟩)
 have DB:ds.length<=1000000:=by lia
 have tD:(refs ds).length=ds.length:=w9 _;have tE:a∈za th c ++ za th d:=qc _ ma;have tF:b∈za th c ++ za th d:=wG _ mb;have tG:=s4.trans g8;have asPair:∀(σ:St) {M:Hp},zz H9 M->∀sp,M sp=none->Q (.ref sp) (upd M sp (.tup [.ref pp,.str (zD (.pair c d)),.ref hp,.ref L])):=λσ M mJ sp aq=>by
  have bj:=zJ aq (.tup [.ref pp,.str (zD (.pair c d)),.ref hp,.ref L]);have I:=mJ.trans bj;exact fin _ (.pair c d) _ (tG.trans I) ⟨sp,_,hp,L,ds,rfl,zl,oY.same I,I _ _ (n9 _ _ x8),iR.same I,tz⟩ xw
 refine !(ex2 rfl rfl ⟨(by show(0:Int) < 4;decide),rfl,!?_⟩);refine kC (λhb=> ?_) (λhb=> ?_)
 ·exact !(!(!(!⟨(zq rfl),λsp aq=>asPair [] (zz.refl _) sp aq⟩)))
 have ia:=yS tE;have ib:=yS tF;have iT:=n9 _ _ x8;refine !⟨.inl ⟨rfl,_,SqL.of iT⟩,!⟨hp,_,_,(za th c ++ za th d).idxOf a,rfl,rfl,SqL.of iT,rfl,jo _,ia.1,ia.2,?_⟩⟩;refine !⟨.inl ⟨rfl,_,SqL.of iT⟩,!⟨hp,_,_,(za th c ++ za th d).idxOf b,rfl,rfl,SqL.of iT,rfl,jo _,ib.1,ib.2,?_⟩⟩;refine !⟨L,rfl,⟨_,SqL.of iR.1⟩,?_⟩;refine kI (xs:=refs ds) (λi ys H'=>H'=H9/\ys=refs ((ds.take i).filter λr=>decide (r.2.getD ((za th c ++ za th d).idxOf a) 0=r.2.getD ((za th c ++ za th d).idxOf b) 0))) ⟨rfl,rfl⟩ ?_ ?_ ?_
 ·rintro i ys H' hi ⟨rfl,rfl⟩;refine⟨SqL.of iR.1,zK ?_⟩;have:=qE (λr:Addr×List Int=>decide (r.2.getD ((za th c ++ za th d).idxOf a) 0=r.2.getD ((za th c ++ za th d).idxOf b) 0)) (ds.take i);rw [w9];rw [wX]at this
  lia
 ·rintro i x ys H' hi ⟨rfl,rfl⟩;have Y:i < ds.length:=by
   have:=(wk.mp hi).1
   rwa [tD]at this
  rw [z0c Y]at hi;cases hi;have bY:=(iR.2 _ (wI Y)).2;have wl:=xx _ (wI Y);have ft:=z1X (λr:Addr×List Int=>decide (r.2.getD ((za th c ++ za th d).idxOf a) 0=r.2.getD ((za th c ++ za th d).idxOf b) 0)) ds (we Y);refine !(!(zx bY (zN (int_at (z8M tE wl))) (!(!(zx bY (zN (int_at (z8M tF wl))) ⟨rfl,!?_⟩)))));rw [z46];refine kC (λhc=> ?_) (λhc=> ?_)
  ·refine !⟨rfl,?_⟩;rw [ft,wY hc];simp [refs]
  ·refine⟨rfl,?_⟩;rw [ft,wU hc,Q3]
 rintro ys H' ⟨rfl,rfl⟩ np aA;rw [tD,qH];refine ze (upd _ np _) rfl aA λM bi dy=> ?_
 have rc:=z0a aA bi dy λr m=>(iR.2 r (Qz.mp m).1).2
 have fe:(ds.filter λr=>decide (r.2.getD ((za th c ++ za th d).idxOf a) 0=r.2.getD ((za th c ++ za th d).idxOf b) 0)).map (·.2)=rowsOf th tr (.join a b c d):=by
  show _=List.filter _ (pairs _ _)
  rw [<-ed,w0o]
  rfl
 have tH:(rowsOf th tr (.join a b c d)).length<=(rowsOf th tr q).length * (tr n).length:=wW (qE _ _) iS;generalize (ds.filter λr=>decide (r.2.getD ((za th c ++ za th d).idxOf a) 0=r.2.getD ((za th c ++ za th d).idxOf b) 0))=fs at dy rc fe;refine !⟨(zq rfl),λep ak=> ?_⟩;refine ze (upd _ ep _) rfl ak λai bj ap=> ?_
 refine⟨np,ep,!⟨rfl,SqL.of (bj _ _ dy),SqL.of ap,!⟨_,(!(ex2 rfl rfl ⟨(by show(0:Int) < 5;decide),ex2 rfl rfl (!⟨rfl,rfl⟩)⟩)),?_⟩⟩⟩;have I:=bi.trans bj;refine kC (λeM=> ?_) (λeM=> ?_)
 ·exact !(!(!(!⟨(zq rfl),λsp aq=>asPair [] I sp aq⟩)))
 refine !?_;have tI:=I _ _ (n9 _ _ a8);have tJ:=I _ _ (n9 _ _ b8);have p6:=g8.trans I;refine exJ (λσ C=>∃(qv:V) (q':Qn),σ= [some v,some (.ref tp),some (.int a9),some (.ref p1),some (.ref p2),some (.ref hp),some (.ref np),o7,X,some (.str a),some (.str b),some (.str (zD q')),some qv,some (.int (((za th c ++ za th d).idxOf a:Nat):Int)),some (.int (((za th c ++ za th d).idxOf b:Nat):Int)),some (.ref np)]/\zz ai C/\QAt C q' qv/\za th q'=za th c ++ za th d/\rowsOf th tr q'=rowsOf th tr (.join a b c d)/\Un2 th tr q n q') (λJ G=> ?_) ?_
 ·refine !(ex2 rfl rfl ⟨(by show(0:Int) < 4;decide),rfl,!?_⟩);refine kC (λhc=> ?_) (λhc=> ?_)
  ·refine !(ex2 rfl rfl ⟨by(walk_at "sl"),ex2 rfl rfl ⟨by(walk_at "sl"),!(ex2 rfl rfl ⟨by(walk_at "sl"),ex2 rfl rfl ⟨by(walk_at "sl"),!(zh tI j6 (ex2 rfl rfl ⟨by(walk_at "sl"),ex2 rfl rfl ⟨by(walk_at "sl"),!(zh tJ j6 (ex2 rfl rfl ⟨by(walk_at "sl"),ex2 rfl rfl ⟨by(walk_at "sl"),?_⟩⟩))⟩⟩))⟩⟩)⟩⟩);refine !(!(!(zh tI zF (!(zh tJ zF ⟨(zq rfl),λjp S=> ?_⟩)))));refine ze (upd _ jp _) rfl S λC n12 O=> ?_
   have iU:=p6.trans n12;refine G _ _ ⟨_,.join a b c d,rfl,n12,⟨jp,iG,bZ,rfl,O,a2.same iU,b2.same iU⟩,rfl,rfl,⟨ma,mb,sV,iN,fC⟩,gL,tH,?_,?_,λ_=>nofun,λh hp=>⟨(gR h).1,(gR h).2,wW mL hp⟩,oX⟩
   ·simp only [zD];(walk_at "sl")
   ·show max _ _ + 1<=_;lia
  ·refine !(ex2 rfl rfl ⟨(by show(0:Int) < 4;decide),rfl,!?_⟩);have pb:∀{x y:Str} (Z:(x=b/\y=a)\/(x=a/\y=b)),rowsOf th tr (.pick (.same (.nm x) (.nm y)) (.pair c d))=rowsOf th tr (.join a b c d):=λ{x y} Z=>by
    show List.filter _ (pairs _ _)=List.filter _ (pairs _ _)
    refine w0I λz _=> ?_
    rcases Z with⟨rfl,rfl⟩ | ⟨rfl,rfl⟩
    ·show decide (z.getD ((za th c ++ za th d).idxOf _) 0=z.getD ((za th c ++ za th d).idxOf _) 0)=_
     exact w1c.mpr eq_comm
    ·rfl
   have mk:∀{x y:Str} (Z:(x=b/\y=a)\/(x=a/\y=b)),Un2 th tr q n (.pick (.same (.nm x) (.nm y)) (.pair c d)):=λ{x y} Z=>by
    have mx:x∈za th c ++ za th d:=by rcases Z with⟨rfl,rfl⟩ | ⟨rfl,rfl⟩ <;> assumption
    have my:y∈za th c ++ za th d:=by rcases Z with⟨rfl,rfl⟩ | ⟨rfl,rfl⟩ <;> assumption
    have lx:x.length<=10:=by rcases Z with⟨rfl,rfl⟩ | ⟨rfl,rfl⟩ <;> assumption
    have ly:y.length<=10:=by rcases Z with⟨rfl,rfl⟩ | ⟨rfl,rfl⟩ <;> assumption
    refine⟨⟨⟨mx,my⟩,by simp [Cond.size],oZ⟩,gL,by rw [pb Z];exact tH,?_,?_,λ_=>nofun,λh hp=>⟨(gR h).1,(gR h).2,wW mL hp⟩,oX⟩
    ·simp only [zD,yu,ends,Side.txt];simp only [zD]at xu;(walk_at "sl")
    ·show depth (.pair c d) + 1<=_;lia
   have line:∀x y:Str,("(pick (same " ++ x ++ " " ++ y ++ ") " ++ zD (.pair c d) ++ ")":Str)=zD (.pick (.same (.nm x) (.nm y)) (.pair c d)):=λx y=>by
    have e:zD (.pick (.same (.nm x) (.nm y)) (.pair c d))=("(pick ":Str) ++ ("(" ++ "same" ++ " " ++ (x ++ " " ++ y) ++ ")") ++ " " ++ zD (.pair c d) ++ ")":=rfl;rw [e];have e1:("(pick (same ":Str)=("(pick ":Str) ++ ("(" ++ "same" ++ " "):=by decide +kernel
    have e2:(") ":Str)=(")":Str) ++ " ":=by decide +kernel
    rw [e1,e2];simp only [Str.append_assoc]
   have xy:(zD (.pair c d)).length<=4000310:=by lia
   refine kC (λdX=> ?_) (λdX=> ?_)
   ·refine !(ex2 rfl rfl ⟨by(walk_at "sl"),ex2 rfl rfl ⟨by(walk_at "sl"),!(ex2 rfl rfl ⟨by(walk_at "sl"),ex2 rfl rfl ⟨by(walk_at "sl"),!⟨_,zD (.pair c d),rfl,rfl,by(walk_at "sl"),ex2 rfl rfl ⟨by(walk_at "sl"),?_⟩⟩⟩⟩)⟩⟩);refine !(!⟨(zq rfl),λcp aI=> ?_⟩);refine ze (upd _ cp _) rfl aI λC n12 O=> ?_
    refine !⟨(zq rfl),λjp S=> ?_⟩;refine ze (upd _ jp _) rfl S λag N R=> ?_
    refine G _ _ ⟨_,.pick (.same (.nm b) (.nm a)) (.pair c d),by rw [<-line];rfl,n12.trans N,⟨jp,_,!⟨R,⟨cp,rfl,N _ _ O⟩,oY.same (I.trans (n12.trans N))⟩⟩,rfl,pb (.inl ⟨rfl,rfl⟩),mk (.inl ⟨rfl,rfl⟩)⟩
   ·refine !(ex2 rfl rfl ⟨by(walk_at "sl"),ex2 rfl rfl ⟨by(walk_at "sl"),!(ex2 rfl rfl ⟨by(walk_at "sl"),ex2 rfl rfl ⟨by(walk_at "sl"),!⟨_,zD (.pair c d),rfl,rfl,by(walk_at "sl"),ex2 rfl rfl ⟨by(walk_at "sl"),?_⟩⟩⟩⟩)⟩⟩);refine !(!⟨(zq rfl),λcp aI=> ?_⟩);refine ze (upd _ cp _) rfl aI λC n12 O=> ?_
    refine !⟨(zq rfl),λjp S=> ?_⟩;refine ze (upd _ jp _) rfl S λag N R=> ?_
    refine G _ _ ⟨_,.pick (.same (.nm a) (.nm b)) (.pair c d),by rw [<-line];rfl,n12.trans N,⟨jp,_,!⟨R,⟨cp,rfl,N _ _ O⟩,oY.same (I.trans (n12.trans N))⟩⟩,rfl,pb (.inr ⟨rfl,rfl⟩),mk (.inr ⟨rfl,rfl⟩)⟩
 rintro σ C ⟨qv,q',rfl,tK,pc,eh,er,pe⟩;refine !(!(!(!⟨(zq rfl),λsp aq=> ?_⟩)));refine ze (upd _ sp _) rfl aq λag N R=> ?_
 have iV:=I.trans (tK.trans N);refine fin _ q' _ (tG.trans iV) ⟨sp,qv,hp,np,fs,rfl,R,pc.same N,by rw [eh];exact iV _ _ iT,(rc.same bj).same (tK.trans N),by rw [fe,er]⟩ pe
noncomputable def z3n(hs:List Str)(n:Str):List Str:=if n="tuvtuvtuvw" then z2B else if n="tuvtuvtuvx" then(["e"]:List Str)else hs
noncomputable def z4Y(r0 r1 r2:List (List Int))(n:Str):List (List Int):=if n="t" then r0 else if n="tuvtuvtuvw" then r1 else r2
theorem tabs_ok{m:Nat}{r0 r1 r2:List (List Int)}(c:2<=m)(a:m<=12)(l0:∀r∈r0,r.length=(jj.take m).length)(l1:∀r∈r1,r.length=2)(l2:∀r∈r2,r.length=1)(d:r0.length<=60)(c1:r1.length<=10)(b:r2.length<=10):
  TabOk (z3n (jj.take m)) (z4Y r0 r1 r2) where
 t:=⟨m,c,a,by unfold z3n;rw [wU (by decide +kernel),wU (by decide +kernel)]⟩
 w:=by unfold z3n;rw [wY rfl]
 x:=by unfold z3n;rw [wU (by decide +kernel),wY rfl]
 rl:=λn hn=>by
  simp only [tabs,wH,qz,QD]at hn;rcases hn with rfl | rfl | rfl
  ·unfold z3n z4Y;rw [wY rfl,wU (by decide +kernel),wU (by decide +kernel)];exact l0
  ·unfold z3n z4Y;rw [wU (by decide +kernel),wY rfl,wY rfl];exact l1
  ·unfold z3n z4Y;rw [wU (by decide +kernel),wU (by decide +kernel),wU (by decide +kernel),wY rfl];exact l2
 ct:=by unfold z4Y;rw [wY rfl];exact d
 cw:=by unfold z4Y;rw [wU (by decide +kernel),wY rfl];exact c1
 cx:=by unfold z4Y;rw [wU (by decide +kernel),wU (by decide +kernel)];exact b
def jz(th:Str->List Str)(tr:Str->List (List Int))(H:Hp)(p:Addr):Prop:=∃v0 v1 v2,H p=some (.lst [v0,v1,v2])/\TabAt th tr H v0 "t"/\TabAt th tr H v1 "tuvtuvtuvw"/\TabAt th tr H v2 "tuvtuvtuvx"
theorem jz.same(h:jz th tr H p)(e:zz H H'):jz th tr H' p:=by
 obtain⟨v0,v1,v2,h0,a,b,c⟩:=h;exact⟨v0,v1,v2,e _ _ h0,a.same e,b.same e,c.same e⟩
inductive spStocked (K:W.Frag) (vs:List V) (H:Hp) (Q:VK) (E:XK):Prop
 | mk:∀cp (ns:List Int) more,vs= [.ref cp,.int more]->SqL K H cp (ns.map V.int)->ns.length<=18->0<=more->more<=48->(∀(p:Addr) (th:Str->List Str) (tr:Str->List (List Int)) (H':Hp),zz H H'->TabOk th tr->jz th tr H' p->Q (.ref p) H')->spStocked K vs H Q E
def z81{t:TT}{Q:Bool->Hp->Prop}(els:Q false H)(h:Q false H->t σ H Q):t σ H Q:=h els
noncomputable def twM(t:Nat):Nat:=if t=0 then 1 else if t=1 then 2 else 4
structure Gr(th:Str->List Str)(tr:Str->List (List Int))(i used twice:Nat)(q:Qn):Prop where
 ok:okQ th q
 rows:(rowsOf th tr q).length<=60
 line:(zD q).length<=2400 * (i + 1) * twM twice
 heads:∀x∈za th q,x∈z0e i used
 dp:depth q<=5 + 2 * i
 sub:z2h th tr q
 lv:zv q<=used * twM twice
 top:∀n,q= .table n->n="t":=by intro n e;cases e
theorem z3x{l:List α}{x:α}(h:x∈l.take i)(a:i<=j):x∈l.take j:=by
 have:l.take i=(l.take j).take i:=by rw [List.take_take,Nat.min_eq_left a]
 rw [this]at h;exact QK h
theorem ju{x:Str}{u v:Nat}(h:x∈z0e i u)(a:i<=j)(b:u<=v):x∈z0e j v:=by
 unfold z0e at h ⊢;simp only [wA,qI]at h ⊢;rcases h with(((h | h) | h) | ⟨s,h,e⟩) | ⟨s,h,e⟩
 ·exact .inl (.inl (.inl (.inl h)))
 ·refine .inl (.inl (.inl (.inr ?_)));split at h
  ·rw [wY (by lia)];exact h
  ·cases h
 ·refine .inl (.inl (.inr ?_));split at h
  ·rw [wY (by lia)];exact h
  ·cases h
 ·exact .inl (.inr ⟨s,z3x h a,e⟩)
 ·exact .inr ⟨s,z3x h a,e⟩
theorem zdC:∀x∈z2B,x∉z0e 26 1:=by decide +kernel
theorem zeg:∀x∈(["e"]:List Str),x∉z0e 26 2:=by decide +kernel
theorem z9F:∀i:Fin 26,(("n":Str) ++ signs.getD i.1 "":Str)∉z0e i.1 3/\(("s":Str) ++ signs.getD i.1 "":Str)∉z0e i.1 3:=by decide +kernel
theorem z4N:(z0e 26 3).length<=100:=by decide +kernel
theorem wIn:∀x∈z2B,x∈z0e 0 2:=by decide +kernel
theorem eIn:∀x∈(["e"]:List Str),x∈z0e 0 3:=by decide +kernel
theorem lIn:∀x∈jj,x∈z0e 0 1:=by decide +kernel
noncomputable def zaA:Str:="abcdefghijklmnopqrstuvwxyz"
theorem zc1:∀i:Fin 26,(zaA.cps.toList[i.1]?).map (λc=>(⟨#[c]⟩:Str))=some (signs.getD i.1 ""):=by decide +kernel
theorem zbC:zaA.length<=sizeLine:=je (by decide +kernel)
theorem zcb(h:i < 26):∃c,atI zaA.cps.toList (0 + (i:Int))=some c/\(⟨#[c]⟩:Str)=signs.getD i "":=by
 have:=zc1 ⟨i,h⟩;cases e:zaA.cps.toList[i]? with
 | none=>rw [e]at this;cases this
 | some c=>
  rw [e]at this;refine⟨c,?_,Option.some.inj this⟩;rw [QH];exact zN e
theorem z3o(h:i < 26):signs.getD i ""∈signs:=by
 rw [ww,we (by show i < 26;exact h)];exact wI _
theorem z5z(h:i < 26):signs.getD i ""∈signs.take (i + 1):=by
 have hl:i < signs.length:=h;rw [ww,we hl,q5,we hl];exact wG _ (wz.mpr rfl)
section
variable{used twice:Nat}
theorem yP(t:Nat):1<=twM t/\twM t<=4:=by unfold twM;split <;> (try split) <;> lia
theorem kK{a b m:Nat}(h:a<=2400 * (i + 1) * m)(hm:1<=m)(c:b<=a + 2400):b<=2400 * (i + 1 + 1) * m:=by
 have:2400 * (i + 1 + 1) * m=2400 * (i + 1) * m + 2400 * m:=by rw [Qw 2400 (i + 1) 1,w07,w1L]
 lia
theorem Gr.big(g:Gr th tr i used twice q)(hi:i<=24):(zD q).length<=240000:=by
 have h:=g.line;have m:=(yP twice).2;have:2400 * (i + 1) * twM twice<=2400 * 25 * 4:=w0y (QE _ (by lia)) m
 lia
def Gr.wide(T:TabOk th tr)(g:Gr th tr i used twice q)(hi:i<=26)(b:used<=3):(za th q).length<=100:=
 wW (yZ (jA T g.ok).2 λx a=>ju (g.heads x a) hi b) z4N
theorem Gr.pick(T:TabOk th tr)(g:Gr th tr i used twice q)(a:jB (za th q) c)(sz:c.size<=6):Gr th tr (i + 1) used twice (.pick c q) where
 ok:=⟨a,sz,g.ok⟩
 rows:=wW (qE _ _) g.rows
 line:=kK g.line (yP _).1 (by have:=z4i (j8 T g.ok) a sz;lia)
 heads:=λx b=>ju (g.heads x b) (by lia) (wu _)
 dp:=by have:=g.dp;show depth q + 1<=_;lia
 sub:=g.sub
 lv:=g.lv
theorem Gr.cols(T:TabOk th tr)(g:Gr th tr i used twice q)(hi:i<=24)(b:used<=3)(ne:ns≠ [])(nd:ns.Nodup)(sub:∀n∈ns,n∈za th q):Gr th tr (i + 1) used twice (.cols ns q) where
 ok:=⟨ne,nd,sub,g.ok⟩
 rows:=by show(List.map _ _).length<=_;rw [w9];exact g.rows
 line:=kK g.line (yP _).1 (by
  have d:=z4b λn hn=>j8 T g.ok n (sub n hn)
  have wl:=g.wide T (by lia) b;have c:=yZ nd sub;simp only [zD]
  (walk_at "sl"))
 heads:=λx a=>ju (g.heads x (sub x a)) (by lia) (wu _)
 dp:=by have:=g.dp;show depth q + 1<=_;lia
 sub:=g.sub
 lv:=g.lv
theorem Gr.sort(T:TabOk th tr)(g:Gr th tr i used twice q)(m:n∈za th q):Gr th tr (i + 1) used twice (.sort n q) where
 ok:=⟨m,g.ok⟩
 rows:=by show(z06 _ _).length<=_;rw [z5p];exact g.rows
 line:=kK g.line (yP _).1 (by
  have:=j8 T g.ok n m;simp only [zD]
  (walk_at "sl"))
 heads:=λx a=>ju (g.heads x a) (by lia) (wu _)
 dp:=by have:=g.dp;show depth q + 1<=_;lia
 sub:=g.sub
 lv:=g.lv
theorem Gr.first(g:Gr th tr i used twice q){n:Int}(m:n∈z0k):Gr th tr (i + 1) used twice (.first n q) where
 ok:=⟨m,g.ok⟩
 rows:=by show(List.take _ _).length<=_;rw [wX];have:=g.rows;lia
 line:=kK g.line (yP _).1 (by
  have:=(z07 n m).1;simp only [zD]
  (walk_at "sl"))
 heads:=λx a=>ju (g.heads x a) (by lia) (wu _)
 dp:=by have:=g.dp;show depth q + 1<=_;lia
 sub:=g.sub
 lv:=g.lv
theorem Gr.firsts(g:Gr th tr i used twice q){n a:Int}(m:n∈z0k)(b:a∈z0k):Gr th tr (i + 1) used twice (.first a (.first n q)) where
 ok:=⟨b,m,g.ok⟩
 rows:=by show(List.take _ (List.take _ _)).length<=_;rw [wX,wX];have:=g.rows;lia
 line:=kK g.line (yP _).1 (by
  have:=(z07 n m).1;have:=(z07 a b).1;simp only [zD]
  (walk_at "sl"))
 heads:=λx c=>ju (g.heads x c) (by lia) (wu _)
 dp:=by have:=g.dp;show depth q + 1 + 1<=_;lia
 sub:=g.sub
 lv:=g.lv
theorem Gr.group(T:TabOk th tr)(g:Gr th tr i used twice q)(hi:i < 26)(h:used<=3){a b:Str}(c:a∈za th q)(mb:b∈za th q):Gr th tr (i + 1) used twice (.group a b (("n":Str) ++ signs.getD i "") (("s":Str) ++ signs.getD i "") q) where
 ok:=by
  have ps:=z9F ⟨i,hi⟩;have e:a∈z0e i 3:=ju (g.heads a c) (wu _) h;exact⟨c,mb,⟨_,z3o hi,rfl,rfl⟩,λz=>ps.1 (z ▸ e),λz=>ps.2 (z ▸ e),g.ok⟩
 rows:=by
  show((z0P _ _).map _).length<=_
  rw [w9];exact wW (z5J _) g.rows
 line:=kK g.line (yP _).1 (by
  have:=j8 T g.ok a c;have:=j8 T g.ok b mb;have:=z2H _ (z3o hi);simp only [zD]
  (walk_at "sl"))
 heads:=λx f=>by
  have d:x∈ [a,(("n":Str) ++ signs.getD i "":Str),(("s":Str) ++ signs.getD i "":Str)]:=f;simp only [wH,qz,QD]at d;rcases d with rfl | rfl | rfl
  ·exact ju (g.heads _ c) (by lia) (wu _)
  ·unfold z0e;exact qc _ (wG _ (qI.mpr ⟨_,z5z hi,rfl⟩))
  ·unfold z0e;exact wG _ (qI.mpr ⟨_,z5z hi,rfl⟩)
 dp:=by have:=g.dp;show depth q + 1<=_;lia
 sub:=g.sub
 lv:=g.lv
theorem z5n{a b c m d:Nat}(h1:a<=2400 * (i + 1) * m)(f:b<=a + 1000)(hc:c<=a + b + 100)(hm:1<=m)(h2:d=2 * m):c<=2400 * (i + 1 + 1) * d:=by
 have e:2400 * (i + 1 + 1) * d=2 * (2400 * (i + 1) * m) + 2 * (2400 * m):=by
  rw [h2,Qw 2400 (i + 1) 1,w07,w1L,Nat.mul_left_comm (2400 * (i + 1)) 2 m,Nat.mul_left_comm 2400 2 m]
 lia
theorem Gr.both(T:TabOk th tr)(g:Gr th tr i used twice q)(ht:twice < 2)(f:okQ th r)(b:za th r=za th q)(h:(zD r).length<=(zD q).length + 1000)(a:(rowsOf th tr q).length + (rowsOf th tr r).length<=60)(l:depth r<=depth q + 1)(d:z2h th tr r)(rl:zv r<=zv q)(e:q'= .both q r\/q'= .both r q):Gr th tr (i + 1) used (twice + 1) q':=by
 have hm:twM (twice + 1)=2 * twM twice:=by
  have:twice=0\/twice=1:=by lia
  rcases this with rfl | rfl <;> rfl
 have j:=g.dp;have lv:∀{z:Qn},z= .both q r\/z= .both r q->zv z<=used * twM (twice + 1):=λ{z} e=>by
  have:=g.lv;rw [hm,Nat.mul_left_comm];rcases e with rfl | rfl <;> simp only [zv] <;> lia
 rcases e with rfl | rfl
 ·exact⟨⟨b.symm,g.ok,f⟩,by show(rowsOf th tr q ++ rowsOf th tr r).length<=_;rw [wg];exact a,z5n g.line h (by simp only [zD];(walk_at "sl")) (yP _).1 hm,λx c=>ju (g.heads x c) (by lia) (wu _),by show max _ _ + 1<=_;lia,⟨g.sub,d,a⟩,lv (.inl rfl),λ_=>nofun⟩
 ·exact⟨⟨b,f,g.ok⟩,by show(rowsOf th tr r ++ rowsOf th tr q).length<=_;rw [wg,Nat.add_comm];exact a,z5n g.line h (by simp only [zD];(walk_at "sl")) (yP _).1 hm,λx c=>ju (g.heads x (by rw [<-b];exact c)) (by lia) (wu _),by show max _ _ + 1<=_;lia,⟨d,g.sub,by lia⟩,lv (.inr rfl),λ_=>nofun⟩
theorem Gr.unite(g:Gr th tr i used twice q)(u:Un2 th tr q n q')(hn:∀x∈th n,x∈z0e 0 (used + 1))(hl:(rowsOf th tr q).length * (tr n).length<=30):Gr th tr (i + 1) (used + 1) twice q' where
 ok:=u.ok
 rows:=wW u.ln (by lia)
 line:=kK g.line (yP _).1 (by have:=u.li;lia)
 heads:=λx a=>by
  have h1:∀x∈za th q,x∈z0e (i + 1) (used + 1):=λx a=>ju (g.heads x a) (by lia) (by lia)
  have h2:∀x∈th n,x∈z0e (i + 1) (used + 1):=λx a=>ju (hn x a) (by lia) (wu _)
  rcases u.hd with e | e
  ·rw [e]at a;exact(wA.mp a).elim (h1 x) (h2 x)
  ·rw [e]at a;exact(wA.mp a).elim (h2 x) (h1 x)
 dp:=by have:=u.dp;have:=g.dp;lia
 sub:=u.sub g.sub (by lia)
 lv:=by
  have:=g.lv;have:=(yP twice).1;rw [u.lv,w07,w1i]
  lia
 top:=λm e=>absurd e (u.nt m)
end
inductive spGrown (K:W.Frag) (vs:List V) (H:Hp) (Q:VK) (E:XK):Prop
 | mk:∀cp tp (ns:List Int) th tr,vs= [.ref cp,.ref tp]->SqL K H cp (ns.map V.int)->ns.length<=24->TabOk th tr->jz th tr H tp->(∀(v':V) (q:Qn) (used twice:Nat) (H':Hp),zz H H'->kE th tr H' v' q->Gr th tr ns.length used twice q->used<=3->twice<=2->Q v' H')->spGrown K vs H Q E
theorem zP:FnScope ["_law_cells","_law_tables","_law_state","_law_used","_law_twice","_law_k","_law_seed","_law_turn"] ["_law_cells","_law_tables"] (zm z1p):=by walk_at "s"
set_option maxHeartbeats 1600000 in
theorem z50(F:Fun K "_law_grown" "_law_grown" z1p f fd)(T:Txt K mg)(y:Kn P w K mg base 8 "_law_picked" ["_law_state","_law_seed"] (spPicked K))(l:Kn P w K mg base 1 "_law_columns" ["_law_state","_law_seed"] (spColumns K))(s:Kn P w K mg base 2 "_law_united" ["_law_state","_law_table","_law_seed"] (spUnited K))
  (o:Kn P w K mg base 9 "_law_doubled" ["_law_state","_law_seed"] (spDoubled K)) (z:Kn P w K mg base 1 "_law_headed" ["_law_state","_law_seed"] (spHeaded K)) (j:Kn P w K mg base 1 "_law_counted" ["_law_state","_law_seed","_law_sign"] (spCounted K)) (u:Kn P w K mg base 1 "_law_sorted" ["_law_state","_law_seed"] (spSorted K)):
  FnOk P w K mg base CX0 10 f fd ["_law_cells","_law_tables"] (spGrown K):=by
 refine F.okB zP (λvs H Q E h=> ?_) (λvs H Q E h=> ?_)
 ·obtain⟨cp,tp,ns,th,tr,rfl,_⟩:=h
  rfl
 obtain⟨cp,tp,ns,th,tr,rfl,hS,hn,TT,h4,fin⟩:=h;have eR:(ns.map V.int).length=ns.length:=w9 _;intro ad A outer sh hr;refine⟨_,(zc (seT 2 zP (zB (zH (zB (zo zi (zo zi zb))) (zo zi (zj (ixT (ixL v1 zd) zd) (zj (ixT (ixL v1 zd) zd) zb))))))
  (zc (seT 3 zP zd)
  (zc (seT 4 zP zd)
  (zc (foR (jW rfl T.range (zX (leN T.len (zf v0 zb)) zb)) (gnM 5 zP)
   (zc (seT 6 zP (zr kG (zr yn (ixL v0 v5) zd) v5))
   (zc (seT 7 zP (zr zZ (zr kG (ixL v0 v5) (zr z6e zd v5)) zd))
   (zg (zC (cmT z6U (pv 7) zd)
    (zg (seT 2 zP (zW y hr.m (zf v2 (zf (pv 6) zb)))))
    (zg (zC (cmT zM (pv 7) zd)
     (zg (seT 2 zP (zW l hr.m (zf v2 (zf (pv 6) zb)))))
     (zg (zC (PW.pt (z0d (cmT zM (pv 7) zd) (z0d (cmT z6U v3 zd) (kW (cmT zd6 (zr z6e (leN T.len (zj (ixT v2 zd) zb)) (leN T.len (zj (ixT (ixL v1 v3) zd) zb))) zd)))))
      (zc (seT 2 zP (zW s hr.m (zf v2 (zj (ixL v1 v3) (zf (pv 6) zb)))))
      (zg (seT 3 zP (zr kG v3 zd))))
      (zg (zC (PW.pt (z0d (cmT zM (pv 7) zd) (z0d (cmT z6U v4 zd) (kW (cmT zd6 (leN T.len (zj (ixT v2 zd) zb)) (zr z3a zd (zr z6e zd v4)))))))
       (zc (seT 2 zP (zW o hr.m (zf v2 (zf (pv 6) zb))))
       (zg (seT 4 zP (zr kG v4 zd))))
       (zg (zC (cmT zM (pv 7) zd)
        (zg (seT 2 zP (zW z hr.m (zf v2 (zf (pv 6) zb)))))
        (zg (zC (cmT zM (pv 7) zd)
         (zg (seT 2 zP (zW j hr.m (zf v2 (zf (pv 6) (zj (yD zea zi v5 (λ_ _=>rfl)) zb))))))
         (zg (seT 2 zP (zW u hr.m (zf v2 (zf (pv 6) zb))))))))))))))))))))
  (zg (zt v2)))))),?_⟩
 generalize hK0:K=K1
 revert K1
 refine jq (by walk_at "cl") ?_;obtain⟨v0,v1,v2,f0,t0,t1,t2⟩:=id h4;obtain⟨p0,eO,oI,xz,rfl,a1,a3,a4,a5⟩:=t0;refine⟨(zq rfl),λqp cJ=> ?_⟩;refine ze (upd _ qp _) rfl cJ λH1 O x1=> ?_
 refine !(zx (O _ _ f0) zF (zh (O _ _ a1) j6 (!(zx (O _ _ f0) zF (zh (O _ _ a1) jr ⟨(zq rfl),λsp aq=> ?_⟩)))));refine ze (upd _ sp _) rfl aq λH2 n2 x2=> ?_
 have s2:=O.trans n2;have bC:kE th tr H2 (.ref sp) (.table "t"):=⟨sp,_,eO,oI,xz,rfl,x2,⟨qp,rfl,n2 _ _ x1⟩,s2 _ _ a3,a4.same s2,a5⟩;have tt:("t":Str)∈tabs:=qF;have g2:Gr th tr 0 1 0 (.table "t"):=by
  refine⟨tt,TT.ct,?_,λx N=> ?_,by decide,TT.ct,by show 1<=1 * 1;decide,λn e=>by cases e;rfl⟩
  ·have:(zD (.table "t")).length<=10:=by decide +kernel
   have:twM 0=1:=rfl
   lia
  ·obtain⟨m,_,_,e⟩:=TT.t;have cf:x∈th "t":=N;rw [e]at cf;exact lIn x (QK cf)
 refine !⟨cp,!⟨.inl (s2.seq hS),!⟨by lia,by rw [eR];lia,z49 (lo:=0) (n:=(ns.map V.int).length) (λi σ H'=>∃(v:V) (q:Qn) (used twice:Nat) (o5 o6 o7:Option V),σ= [some (.ref cp),some (.ref tp),some v,some (.int (used:Int)),some (.int (twice:Int)),o5,o6,o7]/\zz H H'/\kE th tr H' v q/\Gr th tr i used twice q/\1<=used/\used<=3/\twice<=2)
  ⟨_,_,1,0,none,none,none,rfl,s2,bC,g2,by decide,by decide,by decide⟩ ?_ ?_⟩⟩⟩
 ·rintro i σ Z D L _ hi ⟨v,q,used,twice,o5,o6,o7,rfl,C,I,d,J,G,w2⟩;rw [eR]at hi;have iW:i<=24:=by lia
  have bN:atI (ns.map V.int) (0 + (i:Int))=some (.int (ns.getD i 0)):=by
   rw [QH];exact zN (int_at hi)
  generalize ns.getD i 0=c at bN
  have tM:=C.seq hS;have big:=d.big iW;have rows:=d.rows;have wide:=d.wide TT (by lia) G;refine !(!⟨cp,_,_,!⟨rfl,tM,bN,_,!⟨rfl,⟨by decide,by decide⟩,!⟨_,!⟨rfl,?_⟩⟩⟩⟩⟩);refine !(!⟨cp,_,_,!⟨rfl,tM,bN,!⟨_,!⟨rfl,.inl ⟨by decide,by decide⟩,_,!⟨rfl,_,!⟨rfl,(by show(0:Int) < 9;decide),?_⟩⟩⟩⟩⟩⟩);refine !⟨_,!⟨rfl,!?_⟩⟩;refine kC (λb0=> ?_) (λb0=> ?_)
  ·refine !(!⟨th,tr,q,v,_,rfl,TT,I,d.ok,by lia,by lia,λv' c' H' s' B X sz=> ?_⟩);exact L _ _ ⟨v',_,used,twice,_,_,!⟨C.trans s',B,d.pick TT X sz,J,G,w2⟩⟩
  refine !⟨rfl,!?_⟩;refine kC (λb1=> ?_) (λb1=> ?_)
  ·refine !(!⟨th,tr,q,v,_,rfl,TT,I,d.ok,by lia,by lia,by lia,λv' xA H' s' B ne nd sub=> ?_⟩);exact L _ _ ⟨v',_,used,twice,_,_,!⟨C.trans s',B,d.cols TT iW G ne nd sub,J,G,w2⟩⟩
  refine z81 (z7E ?els) (λels=> ?main)
  case main=>
   refine !⟨rfl,!?_⟩;refine kC (λb2=> ?_) (λb2=>els);refine !⟨_,!⟨rfl,!?_⟩⟩;refine kC (λM=> ?_) (λM=>els);have xB:(used:Int) < 3:=qD M;obtain⟨p,qv,hp,rp,rs,rfl,h1,h2,h3,iX,U⟩:=id I;have DE:rs.length<=60:=by rw [<-U,w9]at rows;exact rows
   obtain⟨tv,n,tN,ht,mn,xC,bx,DF⟩:∃(tv:V) (n:Str),atI [V.ref p0,v1,v2] (used:Int)=some tv/\TabAt th tr Z tv n/\n∈tabs/\(∀x∈za th q,x∉th n)/\(∀x∈th n,x∈z0e 0 (used + 1))/\(tr n).length<=10:=by
    have:used=1\/used=2:=by lia
    rcases this with rfl | rfl
    ·refine⟨v1,_,j6,t1.same C,by simp [tabs],λx N R=> ?_,?_,TT.cw⟩
     ·rw [TT.w]at R;exact zdC x R (ju (d.heads x N) (by lia) (wu _))
     ·rw [TT.w];exact wIn
    ·refine⟨v2,_,jr,t2.same C,by simp [tabs],λx N R=> ?_,?_,TT.cx⟩
     ·rw [TT.x]at R;exact zeg x R (ju (d.heads x N) (by lia) (wu _))
     ·rw [TT.x];exact eIn
   obtain⟨tO,sR,oW,ts,rfl,c1,c3,c4,c5⟩:=id ht;have xD:ts.length=(tr n).length:=by rw [<-c5,w9]
   have f3:=C _ _ f0;refine !(zh h1 z1L ⟨rp,!⟨.inl (SqL.of iX.1),!(!(zx f3 tN (zh c1 jr ⟨oW,!⟨.inl (SqL.of c4.1),_,!⟨rfl,.inl ⟨by rw [w9];lia,by rw [w9];lia⟩,_,!⟨rfl,!?_⟩⟩⟩⟩)))⟩⟩);refine kC (λS=> ?_) (λS=>els);have Y:=qD S;rw [w9,w9,xD]at Y;have b5:(rowsOf th tr q).length * (tr n).length<=30:=by
    rw [<-U,w9]
    exact_mod_cast Y
   have xE:(th n).length<=1000:=by
    have:used=1\/used=2:=by lia
    have:=yZ (TT.hd n mn).2 λx N=>ju (bx x N) (Q6 26) (show used + 1<=3 by lia)
    have:=z4N
    lia
   refine !(!(!(zx f3 tN (!⟨th,tr,q,n,_,_,_,rfl,TT,I,d.ok,ht,mn,xC,by lia,by lia,by lia,by lia,xE,λv' q' H' s' B un=> ?_⟩))));refine !⟨_,!⟨rfl,?_⟩⟩;exact L _ _ ⟨v',q',used + 1,twice,_,_,!⟨C.trans s',B,d.unite un bx b5,by lia,by lia,w2⟩⟩
  case els=>
   refine z81 (z7E ?els2) (λels=> ?main2)
   case main2=>
    refine !⟨rfl,!?_⟩;refine kC (λb2=> ?_) (λb2=>els);refine !⟨_,!⟨rfl,!?_⟩⟩;refine kC (λM=> ?_) (λM=>els);have xB:(twice:Int) < 2:=qD M;have tw2:twice < 2:=by lia
    obtain⟨p,qv,hp,rp,rs,rfl,h1,h2,h3,iX,U⟩:=id I;refine !(zh h1 z1L ⟨rp,!⟨.inl (SqL.of iX.1),!⟨_,!⟨rfl,.inl ⟨by decide,by decide⟩,_,!⟨rfl,_,!⟨rfl,!?_⟩⟩⟩⟩⟩⟩);refine kC (λS=> ?_) (λS=>els);have Y:=qD S;rw [w9]at Y;have b5:(rowsOf th tr q).length<=15:=by rw [<-U,w9];lia
    refine !(!⟨th,tr,q,_,_,rfl,TT,I,d.ok,by lia,by lia,λv' q' c' H' s' B X sz e'=> ?_⟩);refine !⟨_,!⟨rfl,?_⟩⟩;have gp:=d.pick TT X sz;have rz:(rowsOf th tr q).length + (rowsOf th tr (.pick c' q)).length<=60:=by
     have:(rowsOf th tr (.pick c' q)).length<=(rowsOf th tr q).length:=qE _ _
     lia
    exact L _ _ ⟨v',q',used,twice + 1,_,_,!⟨C.trans s',B,d.both TT tw2 (r:= .pick c' q) gp.ok rfl (z4i (j8 TT d.ok) X sz) rz (by show depth q + 1<=_;lia) d.sub (wu _) e',J,G,by lia⟩⟩
   case els2=>
    refine !⟨rfl,!?_⟩;refine kC (λb2=> ?_) (λb2=> ?_)
    ·refine !(!⟨th,tr,q,v,_,rfl,I,by lia,λv' q' H' s' B cA=> ?_⟩);obtain⟨m,mm,rfl | ⟨m',eQ,rfl⟩⟩:=cA
     ·exact L _ _ ⟨v',_,used,twice,_,_,!⟨C.trans s',B,d.first mm,J,G,w2⟩⟩
     ·exact L _ _ ⟨v',_,used,twice,_,_,!⟨C.trans s',B,d.firsts mm eQ,J,G,w2⟩⟩
    refine !⟨rfl,!?_⟩;refine kC (λM=> ?_) (λM=> ?_)
    ·obtain⟨ch,ec,es⟩:=zcb (i:=i) (by lia);have l1:=(z2H _ (z3o (i:=i) (by lia))).2.2;refine !(!(!⟨zaA,_,!⟨rfl,zbC,ec,th,tr,q,v,_,_,rfl,TT,I,d.ok,by rw [es];exact l1,by lia,by lia,λv' a b H' s' B ma mb=> ?_⟩⟩));rw [es]at B;exact L _ _ ⟨v',_,used,twice,_,_,!⟨C.trans s',B,d.group TT (by lia) G ma mb,J,G,w2⟩⟩
    ·refine !(!⟨th,tr,q,v,_,rfl,TT,I,d.ok,by lia,by lia,λv' n' H' s' B mn=> ?_⟩);exact L _ _ ⟨v',_,used,twice,_,_,!⟨C.trans s',B,d.sort TT mn,J,G,w2⟩⟩
 ·rintro σ Z ⟨v,q,used,twice,o5,o6,o7,rfl,C,I,d,J,G,w2⟩;rw [eR]at d;exact !(fin v q used twice Z C I d G w2)
theorem ints_snoc{zs:List Int}{z:Int}(h:zs.length=j):∃a:List Int,zs.map V.int ++ [V.int z]=a.map V.int/\a.length=j + 1:=
 ⟨zs ++ [z],by rw [wK];rfl,by rw [wg,h];rfl⟩
theorem zce{ns:List Int}(h:0 < ns.length):atI (ns.map V.int) (-1)=some (.int (ns.getD (ns.length - 1) 0)):=by
 have e:=int_at (xs:=ns) (i:=ns.length - 1) (by lia);have h2:ixN (ns.map V.int).length (-1)=some (ns.length - 1):=by
  unfold ixN;rw [wU (by decide),wY (by rw [w9];lia),w9]
  congr 1
  lia
 unfold atI;rw [h2];exact e
structure Stk(H H':Hp)(rp r0 r1 r2:Addr)(a b c:List (Addr×List Int))(hl:Nat):Prop where
 same:zz H H'
 top:H' rp=some (.lst [.ref r0,.ref r1,.ref r2])
 h0:RowsAt H' r0 a
 h1:RowsAt H' r1 b
 h2:RowsAt H' r2 c
 f0:H r0=none
 f1:H r1=none
 f2:H r2=none
 n01:r0≠r1
 n02:r0≠r2
 n12:r1≠r2
 np0:rp≠r0
 np1:rp≠r1
 np2:rp≠r2
 a0:∀r∈a,r.1≠r0/\r.1≠r1/\r.1≠r2
 a1:∀r∈b,r.1≠r0/\r.1≠r1/\r.1≠r2
 a2:∀r∈c,r.1≠r0/\r.1≠r1/\r.1≠r2
 w0:∀r∈a,r.2.length=hl
 w1:∀r∈b,r.2.length=2
 w2:∀r∈c,r.2.length=1
def Stk.new{b c:List (Addr×List Int)}(s:Stk H H' rp r0 r1 r2 a b c hl)(e:zz H' H1):Stk H H1 rp r0 r1 r2 a b c hl:=
 {s with same:=s.same.trans e,top:=e _ _ s.top,h0:=s.h0.same e,h1:=s.h1.same e,h2:=s.h2.same e}
def Stk.fresh{q:Addr}{b c:List (Addr×List Int)}(s:Stk H H' rp r0 r1 r2 a b c hl)(h:H' q=none):q≠r0/\q≠r1/\q≠r2:=
 ⟨(zy s.h0.1 h).symm,(zy s.h1.1 h).symm,(zy s.h2.1 h).symm⟩
theorem Stk.push0{q:Addr}{b c:List (Addr×List Int)}(s:Stk H H' rp r0 r1 r2 a b c hl)(hq:H' q=some (.lst (x.map V.int)))(d:q≠r0/\q≠r1/\q≠r2)(e:x.length=hl):
  Stk H (upd H' r0 (.lst (refs a ++ [V.ref q]))) rp r0 r1 r2 (a ++ [(q,x)]) b c hl where
 same:=s.same.put s.f0
 top:=by rw [zn s.np0];exact s.top
 h0:=s.h0.push d.1 hq
 h1:=s.h1.kp z2w s.n01.symm λr m=>(s.a1 r m).1
 h2:=s.h2.kp z2w s.n02.symm λr m=>(s.a2 r m).1
 f0:=s.f0
 f1:=s.f1
 f2:=s.f2
 n01:=s.n01
 n02:=s.n02
 n12:=s.n12
 np0:=s.np0
 np1:=s.np1
 np2:=s.np2
 a0:=λr m=>(wA.mp m).elim (s.a0 r) λm=>by rw [wz.mp m];exact d
 a1:=s.a1
 a2:=s.a2
 w0:=λr m=>(wA.mp m).elim (s.w0 r) λm=>by rw [wz.mp m];exact e
 w1:=s.w1
 w2:=s.w2
theorem Stk.push1{q:Addr}{b c:List (Addr×List Int)}(s:Stk H H' rp r0 r1 r2 a b c hl)(hq:H' q=some (.lst (x.map V.int)))(d:q≠r0/\q≠r1/\q≠r2)(e:x.length=2):
  Stk H (upd H' r1 (.lst (refs b ++ [V.ref q]))) rp r0 r1 r2 a (b ++ [(q,x)]) c hl where
 same:=s.same.put s.f1
 top:=by rw [zn s.np1];exact s.top
 h0:=s.h0.kp z2w s.n01 λr m=>(s.a0 r m).2.1
 h1:=s.h1.push d.2.1 hq
 h2:=s.h2.kp z2w s.n12.symm λr m=>(s.a2 r m).2.1
 f0:=s.f0
 f1:=s.f1
 f2:=s.f2
 n01:=s.n01
 n02:=s.n02
 n12:=s.n12
 np0:=s.np0
 np1:=s.np1
 np2:=s.np2
 a0:=s.a0
 a1:=λr m=>(wA.mp m).elim (s.a1 r) λm=>by rw [wz.mp m];exact d
 a2:=s.a2
 w0:=s.w0
 w1:=λr m=>(wA.mp m).elim (s.w1 r) λm=>by rw [wz.mp m];exact e
 w2:=s.w2
theorem Stk.push2{q:Addr}{b c:List (Addr×List Int)}(s:Stk H H' rp r0 r1 r2 a b c hl)(hq:H' q=some (.lst (x.map V.int)))(d:q≠r0/\q≠r1/\q≠r2)(e:x.length=1):
  Stk H (upd H' r2 (.lst (refs c ++ [V.ref q]))) rp r0 r1 r2 a b (c ++ [(q,x)]) hl where
 same:=s.same.put s.f2
 top:=by rw [zn s.np2];exact s.top
 h0:=s.h0.kp z2w s.n02 λr m=>(s.a0 r m).2.2
 h1:=s.h1.kp z2w s.n12 λr m=>(s.a1 r m).2.2
 h2:=s.h2.push d.2.2 hq
 f0:=s.f0
 f1:=s.f1
 f2:=s.f2
 n01:=s.n01
 n02:=s.n02
 n12:=s.n12
 np0:=s.np0
 np1:=s.np1
 np2:=s.np2
 a0:=s.a0
 a1:=s.a1
 a2:=λr m=>(wA.mp m).elim (s.a2 r) λm=>by rw [wz.mp m];exact d
 w0:=s.w0
 w1:=s.w1
 w2:=λr m=>(wA.mp m).elim (s.w2 r) λm=>by rw [wz.mp m];exact e
theorem zL:FnScope ["_law_cells","_law_more","_law_rows","_law_heads","_law_k","_law_cell","_law_one","_law_other","_law_rest","_law_first","_law_made"] ["_law_cells","_law_more"] (zm yC):=by walk_at "s"
set_option maxHeartbeats 1600000 in
theorem z3P(F:Fun K "_law_stocked" "_law_stocked" yC f fd)(T:Txt K mg):FnOk P w K mg base CX0 1 f fd ["_law_cells","_law_more"] (spStocked K):=by
 refine F.okB zL (λvs H Q E h=> ?_) (λvs H Q E h=> ?_)
 ·obtain⟨cp,ns,more,rfl,_⟩:=h
  rfl
 obtain⟨cp,ns,more,rfl,O,hn,DG,DH,fin⟩:=h;have eR:(ns.map V.int).length=ns.length:=w9 _;have z0:0<=sizeLine:=by decide
 intro ad A outer sh hr;refine⟨_,(zc (seT 2 zL (zw (jM (zw zb) (jM (zw zb) (jM (zw zb) zb)))))
  (zc (seT 3 zL (zw (zo zi (zo zi (zo zi (zo zi (zo zi (zo zi (zo zi (zo zi (zo zi (zo zi (zo zi (zo zi zb))))))))))))))
  (zc (seT 3 zL (jc kz v3 jx (jk (ixL (zw (yy (zr kG zd (zr zZ (zR (z2Y rfl) rfl T.sum w12 (zj (jc kz v0 jx (jk zd)) zb)) zd)) (zo zd zb))) (jg z9I rfl T.int PyProof.Rows.boot_int (zbN (cmE zM (zr zZ (zR (z2Y rfl) rfl T.sum w12 (zj (jc kz v0 jx (jk zd)) zb)) zd) zd) zb))))))
  (zc (foR (jW rfl T.range (zX (zR (z9r rfl) rfl T.max PyProof.Rows.boot_max (zo zd (zX (leN T.len (zf v0 zb)) zb))) zb)) (z0I (i:=4) zL.nd rfl (QO rfl))
   (zc (kf (i:=5) zL.nd rfl (QO rfl) (zr kG (zr z6e zd v4) zd))
   (zc (z0f (cmT z6U v4 (leN T.len (zf v0 zb)))
    (zg (kf (i:=5) zL.nd rfl (QO rfl) (ixL v0 v4)))
    zu)
   (zc (seT 6 zL (zr z3a (zr zZ v5 zd) zd))
   (zc (seT 7 zL (zr z3a (zr zZ (zr kG (zr yn v5 zd) v4) zd) zd))
   (zc (z0f (cmT zM (zr zZ v5 zd) zd)
    (zg (seT 7 zL (zr kG (pv 7) (z40 ⟨by decide,by decide,by decide⟩))))
    zu)
   (zc (jG (j:=8) rfl zL.nd rfl (w02 rfl) (CompSc.of (sx:=zm yC) (NX:= ["_law_cells","_law_more","_law_rows","_law_heads","_law_k","_law_cell","_law_one","_law_other","_law_rest","_law_first","_law_made"]) (fr:= ["_law_cell","_law_k"]) (ix:= [5,4]) rfl rfl (by decide +kernel)) (z5u rfl T.range (zo zd (zX (leN T.len (zf v3 zb)) zb))) (λ_ _ _ _ _ _=>jZ) (λ_ _ _ _ _ _=>(zr zZ (zr kG (zr kG (zr yn v1 zd) v2) v0) zd)))
   (zc (seT 9 zL (zr kH (zw (zf (pv 6) (zf (pv 7) zb))) (pv 8)))
   (zg (jh (apP (ixL v2 (zr zZ v4 zd)) (zj (ixL (zw (zf (pv 9) (jM (zw (zf (pv 7) (zf (pv 6) zb))) (jM (zw (zf (pv 6) zb)) zb)))) (zr zZ v4 zd)) zb))))))))))))
  (zc (z0f (cmT zM (zr zZ (zR (z2Y rfl) rfl T.sum w12 (zj (jc kz v0 (jk (z0z yU zd)) jx) zb)) zd) zd)
   (zg (foR (jW rfl T.range (zf v1 zb)) (z0I (i:=4) zL.nd rfl (QO rfl))
    (zg (jh (apP (ixL v2 zd) (z1u (yI rfl (CompSc.of (sx:=zm yC) (NX:= ["_law_cells","_law_more","_law_rows","_law_heads","_law_k","_law_cell","_law_one","_law_other","_law_rest","_law_first","_law_made"]) (fr:= ["_law_k"]) (ix:= [4]) rfl rfl (by decide +kernel)) (jW rfl T.range (zX (leN T.len (zf v3 zb)) zb)) (λ_ _ _ _ _ _=>jZ) (λ_ _ _ _ _ _=>(zr z3a (zr zZ (zr kG v1 v0) zd) zd))) zb))))))
   zu)
  (zc (z0f (PW.pt (z0d (cmT z8a (leN T.len (zf v0 zb)) zd) (kW (cmT zM (zr zZ (ixL v0 zd) zd) zd))))
   (zg (z7X (zw zb) (z7T v2 (zr zZ (ixL v0 (z0z yU zd)) zd) set_list)))
   zu)
  (zc (seT 10 zL (zw (zH (zB (zo zi (zf v3 (zj (ixL v2 zd) zb)))) (zH (zB (zo zi (jM (zw (zo zi (zo zi zb))) (zj (ixL v2 zd) zb)))) zb))))
  (zg (zt (zr kH (pv 10) (zw (zH (zB (zo zi (jM (zw (zo zi zb)) (zj (ixL v2 zd) zb)))) zb)))))))))))),?_⟩
 generalize hK0:K=K1
 revert K1
 refine jq (by walk_at "cl") ?_;refine⟨z0,λr0 dO=> ?_⟩;refine ze (upd _ r0 _) rfl dO λH1 n1 x1=> ?_
 refine⟨z0,λr1 eP=> ?_⟩;refine ze (upd _ r1 _) rfl eP λH2 n2 x2=> ?_
 refine⟨z0,λr2 de=> ?_⟩;refine ze (upd _ r2 _) rfl de λH3 n3 x3=> ?_
 refine⟨(zq rfl),λrp dY=> ?_⟩;refine ze (upd _ rp _) rfl dY λH4 n4 x4=> ?_
 refine⟨(zq rfl),λeO eT=> ?_⟩;refine ze (upd _ eO _) rfl eT λH5 n5 x5=> ?_
 replace x5:H5 eO=some (.lst (jj.map V.str)):=x5;have s3:=n1.trans (n2.trans n3);have s5:=s3.trans (n4.trans n5);have dP:∀hl,Stk H H5 rp r0 r1 r2 [] [] [] hl:=λhl=>⟨s5,n5 _ _ x4,ky (n5 _ _ (n4 _ _ (n3 _ _ (n2 _ _ x1)))),ky (n5 _ _ (n4 _ _ (n3 _ _ x2))),ky (n5 _ _ (n4 _ _ x3)),dO,n1.free eP,(n1.trans n2).free de,zy x1 eP,zy (n2 _ _ x1) de,zy x2 de,(zy (n3 _ _ (n2 _ _ x1)) dY).symm,(zy (n3 _ _ x2) dY).symm,(zy x3 dY).symm,λ_ z=>(by cases z),λ_ z=>(by cases z),λ_ z=>(by cases z),λ_ z=>(by cases z),λ_ z=>(by cases z),λ_ z=>(by cases z)⟩
 refine !(!(!⟨cp,!⟨s5.seq O,λl1 eB=> ?_⟩⟩));rw [z2W];refine ze (upd _ l1 _) rfl eB λH6 n6 x6=> ?_
 refine⟨l1,!⟨SqL.of x6,_,!⟨rfl,(by show(0:Int) < 5;decide),_,!⟨rfl,(zq rfl),λl2 aD=> ?_⟩⟩⟩⟩;generalize ((ns.drop (HT.sIx ns.length 0 none)).take (HT.sIx ns.length ns.length (some 1) - HT.sIx ns.length 0 none)).sum=sm;refine ze (upd _ l2 _) rfl aD λH7 n7 x7=> ?_
 refine !(!⟨cp,!⟨(s5.trans (n6.trans n7)).seq O,λl3 av=> ?_⟩⟩);rw [z2W];refine ze (upd _ l3 _) rfl av λH8 n8 x8=> ?_
 refine⟨l3,!⟨SqL.of x8,_,!⟨rfl,(by show(0:Int) < 11;decide),rfl,.inr (!?_)⟩⟩⟩;have bA:=n6.trans (n7.trans n8);obtain⟨m,m1,m2,em⟩:∃m:Int,2<=m/\m<=12/\atI [V.int (2 + sm % 5),V.int 12] (if decide (V.int (((ns.drop (HT.sIx ns.length 0 none)).take (HT.sIx ns.length ns.length (some 1) - HT.sIx ns.length 0 none)).sum % 11)=V.int 4)=true then 1 else 0)=some (.int m):=by
  cases decide (V.int (((ns.drop (HT.sIx ns.length 0 none)).take (HT.sIx ns.length ns.length (some 1) - HT.sIx ns.length 0 none)).sum % 11)=V.int 4)with
  | true=>exact⟨12,by decide,by decide,j6⟩
  | false=>exact⟨2 + sm % 5,by lia,by lia,zF⟩
 refine zx (n8 _ _ x7) em (!⟨eO,!⟨SqL.of (bA _ _ x5),λhp cj=> ?_⟩⟩);rw [z21 (by lia),<-w0N];refine ze (upd _ hp _) rfl cj λH9 n9 x9=> ?_
 have iY:(jj.take m.toNat).length=m.toNat:=by
  rw [wX];have:jj.length=12:=rfl
  lia
 have iZ:=(dP m.toNat).new (bA.trans n9);have gP:((jj.take m.toNat).map V.str).length=m.toNat:=by rw [w9,iY]
 have tP:hp≠r0:=(zy ((bA _ _ ((dP 0).h0.1))) cj).symm;have xF:hp≠r1:=(zy ((bA _ _ ((dP 0).h1.1))) cj).symm;have xG:hp≠r2:=(zy ((bA _ _ ((dP 0).h2.1))) cj).symm;have ph:hp≠rp:=(zy ((bA _ _ ((dP 0).top))) cj).symm;have DJ:∀{H':Hp},zz H9 H'->H' hp=some (.lst ((jj.take m.toNat).map V.str)):=λe=>e _ _ x9
 have emax:(if(((ns.map V.int).length:Nat):Int) > 12 then(((ns.map V.int).length:Nat):Int)else 12)=((max 12 ns.length:Nat):Int):=by
  rw [eR];split <;> lia
 refine !⟨cp,!⟨.inl (iZ.same.seq O),_,!⟨((max 12 ns.length:Nat):Int),Qj (λz=> [V.int z]) emax,by lia,by lia,z49 (lo:=0) (n:=max 12 ns.length) (λi σ H'=>∃(a b c:List (Addr×List Int)) (y X S U L M:Option V),σ= [some (.ref cp),some (.int more),some (.ref rp),some (.ref hp),y,X,S,U,L,M,none]/\Stk H H' rp r0 r1 r2 a b c m.toNat/\H' hp=some (.lst ((jj.take m.toNat).map V.str))/\
  a.length=(i + 2) / 3/\b.length=(i + 1) / 3/\c.length=i / 3) ⟨[],[],[],none,none,none,none,none,none,rfl,iZ,x9,rfl,rfl,rfl⟩ ?_ ?_⟩⟩⟩
 ·rintro i σ G D hN _ hi ⟨a,b,c,y,X,S,U,L,M,rfl,k0,eT,la,lb,lc⟩;have xH:i < 18:=by lia
  refine !⟨_,!⟨rfl,.inl ⟨by decide,by decide⟩,_,!⟨rfl,?_⟩⟩⟩;refine⟨λσ t=>∃cell:Int,σ= [some (.ref cp),some (.int more),some (.ref rp),some (.ref hp),some (.int (0 + (i:Int))),some (.int cell),S,U,L,M,none]/\t=G,?_,?_⟩
  ·refine !(!⟨cp,!⟨.inl (k0.same.seq O),_,!⟨rfl,!?_⟩⟩⟩);refine kC (λN=> ?_) (λN=> ?_)
   ·have cC:=qD N;rw [eR]at cC;have bN:atI (ns.map V.int) (0 + (i:Int))=some (.int (ns.getD i 0)):=by rw [QH];exact zN (int_at (by lia))
    refine !(!⟨cp,_,_,!⟨rfl,k0.same.seq O,bN,?_⟩⟩);exact !rfl
   ·exact !rfl
  rintro σ G ⟨cell,rfl,rfl⟩;refine !⟨_,!⟨rfl,(by show(0:Int) < 4;decide),_,!⟨rfl,?_⟩⟩⟩;refine !⟨_,!⟨rfl,⟨by decide,by decide⟩,!⟨_,!⟨rfl,_,!⟨rfl,(by show(0:Int) < 5;decide),_,!⟨rfl,?_⟩⟩⟩⟩⟩⟩;refine⟨λσ t=>∃one other:Int,σ= [some (.ref cp),some (.int more),some (.ref rp),some (.ref hp),some (.int (0 + (i:Int))),some (.int cell),some (.int one),some (.int other),L,M,none]/\t=G,?_,?_⟩
  ·refine !⟨_,!⟨rfl,(by show(0:Int) < 23;decide),rfl,!?_⟩⟩;refine kC (λN=> ?_) (λN=> ?_)
   ·refine !⟨_,!⟨rfl,?_⟩⟩;exact⟨_,!rfl⟩
   ·exact⟨_,!rfl⟩
  rintro σ G ⟨one,other,rfl,rfl⟩;refine !⟨hp,!⟨.inl (SqL.of eT),2,(m.toNat:Int),Qj (λz:Nat=> [V.int 2,V.int ((z:Nat):Int)]) gP,⟨by lia,by lia,by lia,by lia⟩,?_⟩⟩;refine z1O (lo:=2) (n:=((m.toNat:Int) - 2).toNat) (λj ys H'=>H'=G/\∃zs:List Int,ys=zs.map V.int/\zs.length=j) ⟨rfl,[],rfl,rfl⟩ ?_ ?_ ?_
  ·rintro j ys t hj ⟨rfl,zs,rfl,lz⟩;exact zK (by rw [w9];lia)
  ·rintro j ys t hj ⟨rfl,zs,rfl,lz⟩;refine !⟨_,!⟨rfl,⟨by decide,by decide⟩,!⟨_,!⟨rfl,!⟨_,!⟨rfl,_,!⟨rfl,(by show(0:Int) < 3;decide),rfl,ints_snoc lz⟩⟩⟩⟩⟩⟩⟩
  rintro ys G ⟨rfl,rest,rfl,tQ⟩ tp aF;refine ze (upd _ tp _) rfl aF λZ e1 y1=> ?_
  have dZ:2 + rest.length=m.toNat:=by lia
  refine !(!⟨(zq rfl),λl4 aq=> ?_⟩);refine ze (upd _ l4 _) rfl aq λG2 R y2=> ?_
  refine !⟨l4,tp,_,!⟨rfl,y2,R _ _ y1,je (by rw [w9];simp only [wP,Qo];lia),λfp bS=> ?_⟩⟩;have d:=k0.new (e1.trans R);have nf:=d.fresh bS;refine ze (upd _ fp _) rfl bS λG3 e3 x9=> ?_
  replace x9:G3 fp=some (.lst (([one,other] ++ rest).map V.int)):=by rw [x9,wK];rfl
  have B:=d.new e3;have cI:=(e1.trans (R.trans e3)) _ _ eT;have eU:i % 3=0\/i % 3=1\/i % 3=2:=by lia
  rcases eU with tR | tR | tR
  ·have I:(0 + (i:Int)) % 3=0:=by lia
   have l9:atI [V.ref r0,V.ref r1,V.ref r2] ((0 + (i:Int)) % 3)=some (V.ref r0):=by rw [I];exact zF
   refine !(!⟨_,!⟨rfl,(by show(0:Int) < 3;decide),zx B.top l9 ⟨.inl ⟨rfl,_,SqL.of B.h0.1⟩,!(!(!⟨(zq rfl),λu1 dF=> ?_⟩))⟩⟩⟩);refine ze (upd _ u1 _) rfl dF λG4 p y4=> ?_
   refine !⟨(zq rfl),λu2 C=> ?_⟩;refine ze (upd _ u2 _) rfl C λG5 s y5=> ?_
   refine⟨(zq rfl),λu3 J=> ?_⟩;refine ze (upd _ u3 _) rfl J λG6 l y6=> ?_
   have Y:=B.new (p.trans (s.trans l));have lh:=(p.trans (s.trans l)) _ _ cI;refine !⟨_,!⟨rfl,(by show(0:Int) < 3;decide),zx y6 (by rw [I];exact zF) ⟨r0,_,!⟨rfl,Y.h0.1,zK (by rw [w9];lia),?_⟩⟩⟩⟩;refine hN _ _ ⟨_,_,_,_,_,_,_,_,!⟨Y.push0 (x:= [one,other] ++ rest) ((p.trans (s.trans l)) _ _ x9) nf (by simp;lia),by rw [zn tP];exact lh,by rw [wg,wJ];lia,by lia,by lia⟩⟩
  ·have I:(0 + (i:Int)) % 3=1:=by lia
   have l9:atI [V.ref r0,V.ref r1,V.ref r2] ((0 + (i:Int)) % 3)=some (V.ref r1):=by rw [I];exact j6
   refine !(!⟨_,!⟨rfl,(by show(0:Int) < 3;decide),zx B.top l9 ⟨.inl ⟨rfl,_,SqL.of B.h1.1⟩,!(!(!⟨(zq rfl),λu1 dF=> ?_⟩))⟩⟩⟩);refine ze (upd _ u1 _) rfl dF λG4 p y4=> ?_
   refine !⟨(zq rfl),λu2 C=> ?_⟩;refine ze (upd _ u2 _) rfl C λG5 s y5=> ?_
   refine⟨(zq rfl),λu3 J=> ?_⟩;refine ze (upd _ u3 _) rfl J λG6 l y6=> ?_
   have Y:=B.new (p.trans (s.trans l));have lh:=(p.trans (s.trans l)) _ _ cI;refine !⟨_,!⟨rfl,(by show(0:Int) < 3;decide),zx y6 (by rw [I];exact j6) ⟨r1,_,!⟨rfl,Y.h1.1,zK (by rw [w9];lia),?_⟩⟩⟩⟩;refine hN _ _ ⟨_,_,_,_,_,_,_,_,!⟨Y.push1 (x:= [other,one]) (l _ _ (s _ _ y4)) (B.fresh dF) rfl,by rw [zn xF];exact lh,by lia,by rw [wg,wJ];lia,by lia⟩⟩
  ·have I:(0 + (i:Int)) % 3=2:=by lia
   have l9:atI [V.ref r0,V.ref r1,V.ref r2] ((0 + (i:Int)) % 3)=some (V.ref r2):=by rw [I];exact jr
   refine !(!⟨_,!⟨rfl,(by show(0:Int) < 3;decide),zx B.top l9 ⟨.inl ⟨rfl,_,SqL.of B.h2.1⟩,!(!(!⟨(zq rfl),λu1 dF=> ?_⟩))⟩⟩⟩);refine ze (upd _ u1 _) rfl dF λG4 p y4=> ?_
   refine !⟨(zq rfl),λu2 C=> ?_⟩;refine ze (upd _ u2 _) rfl C λG5 s y5=> ?_
   refine⟨(zq rfl),λu3 J=> ?_⟩;refine ze (upd _ u3 _) rfl J λG6 l y6=> ?_
   have Y:=B.new (p.trans (s.trans l));have lh:=(p.trans (s.trans l)) _ _ cI;refine !⟨_,!⟨rfl,(by show(0:Int) < 3;decide),zx y6 (by rw [I];exact jr) ⟨r2,_,!⟨rfl,Y.h2.1,zK (by rw [w9];lia),?_⟩⟩⟩⟩;refine hN _ _ ⟨_,_,_,_,_,_,_,_,!⟨Y.push2 (x:= [one]) (l _ _ y5) ((B.new p).fresh C) rfl,by rw [zn xG];exact lh,by lia,by lia,by rw [wg,wJ];lia⟩⟩
 rintro σ G ⟨a,b,c,y,X,S,U,L,M,rfl,k0,tS,la,lb,lc⟩;have xI:a.length<=7:=by lia
 have DK:b.length<=7:=by lia
 have DO:c.length<=7:=by lia
 refine⟨λσ t=>∃(a:List (Addr×List Int)) (y:Option V),σ= [some (.ref cp),some (.int more),some (.ref rp),some (.ref hp),y,X,S,U,L,M,none]/\Stk H t rp r0 r1 r2 a b c m.toNat/\t hp=some (.lst ((jj.take m.toNat).map V.str))/\a.length<=60,?_,?_⟩
 ·refine !(!(!⟨cp,!⟨k0.same.seq O,λl5 au=> ?_⟩⟩));rw [z2W];refine ze (upd _ l5 _) rfl au λZ e1 y1=> ?_
  refine⟨l5,!⟨SqL.of y1,_,!⟨rfl,(by show(0:Int) < 8;decide),rfl,!?_⟩⟩⟩;have u:=k0.new e1;refine kC (λN=> ?_) (λN=> ?_)
  ·refine !⟨more,rfl,by lia,by lia,z49 (lo:=0) (n:=more.toNat) (λi σ t=>∃(a:List (Addr×List Int)) (y:Option V),σ= [some (.ref cp),some (.int more),some (.ref rp),some (.ref hp),y,X,S,U,L,M,none]/\Stk H t rp r0 r1 r2 a b c m.toNat/\t hp=some (.lst ((jj.take m.toNat).map V.str))/\a.length<=7 + i) ⟨a,y,rfl,u,e1 _ _ tS,xI⟩ ?_ ?_⟩
   ·rintro i σ G2 D hN _ hi ⟨a,y,rfl,d,gT,xJ⟩;refine !(zx d.top zF ⟨.inl ⟨rfl,_,SqL.of d.h0.1⟩,!⟨hp,!⟨.inl (SqL.of gT),(m.toNat:Int),Qj (λz:Nat=> [V.int ((z:Nat):Int)]) gP,by lia,by lia,?_⟩⟩⟩);refine z1O (lo:=0) (n:=(m.toNat:Int).toNat) (λj ys H'=>H'=G2/\∃zs:List Int,ys=zs.map V.int/\zs.length=j) ⟨rfl,[],rfl,rfl⟩ ?_ ?_ ?_
    ·rintro j ys t hj ⟨rfl,zs,rfl,lz⟩;exact zK (by rw [w9];lia)
    ·rintro j ys t hj ⟨rfl,zs,rfl,lz⟩;refine !(!⟨_,!⟨rfl,_,!⟨rfl,(by show(0:Int) < 4;decide),_,!⟨rfl,rfl,ints_snoc lz⟩⟩⟩⟩)
    rintro ys t ⟨rfl,zs,rfl,lz⟩ tp aF;have nf:=d.fresh aF;refine ze (upd _ tp _) rfl aF λG3 e3 y3=> ?_
    have B:=d.new e3;refine⟨r0,_,!⟨rfl,B.h0.1,zK (by rw [w9];lia),?_⟩⟩;exact hN _ _ ⟨_,!⟨B.push0 y3 nf (by rw [lz];rfl),by rw [zn tP];exact e3 _ _ gT,by rw [wg,wJ];lia⟩⟩
   ·rintro σ G2 ⟨a,y,rfl,d,gT,xJ⟩;exact⟨a,y,rfl,d,gT,by lia⟩
  ·exact⟨a,y,rfl,u,e1 _ _ tS,by lia⟩
 rintro σ Z ⟨a,y,rfl,u,gM,pi⟩;refine⟨λσ t=>∃(s0 s1 s2:Addr) (a b c:List (Addr×List Int)),σ= [some (.ref cp),some (.int more),some (.ref rp),some (.ref hp),y,X,S,U,L,M,none]/\zz H t/\t rp=some (.lst [.ref s0,.ref s1,.ref s2])/\t hp=some (.lst ((jj.take m.toNat).map V.str))/\RowsAt t s0 a/\RowsAt t s1 b/\RowsAt t s2 c/\
  (∀r∈a,r.2.length=m.toNat)/\(∀r∈b,r.2.length=2)/\(∀r∈c,r.2.length=1)/\a.length<=60/\b.length<=10/\c.length<=10,?_,?_⟩
 ·have pq:∃(s0 s1 s2:Addr) (a b c:List (Addr×List Int)),([some (.ref cp),some (.int more),some (.ref rp),some (.ref hp),y,X,S,U,L,M,none]:List (Option V))= [some (.ref cp),some (.int more),some (.ref rp),some (.ref hp),y,X,S,U,L,M,none]/\zz H Z/\Z rp=some (.lst [.ref s0,.ref s1,.ref s2])/\Z hp=some (.lst ((jj.take m.toNat).map V.str))/\RowsAt Z s0 a/\RowsAt Z s1 b/\RowsAt Z s2 c/\
   (∀r∈a,r.2.length=m.toNat)/\(∀r∈b,r.2.length=2)/\(∀r∈c,r.2.length=1)/\a.length<=60/\b.length<=10/\c.length<=10:=
   ⟨r0,r1,r2,a,b,c,rfl,u.same,u.top,gM,u.h0,u.h1,u.h2,u.w0,u.w1,u.w2,pi,by lia,by lia⟩
  refine z81 (z7E pq) (λels=> ?_);refine !⟨cp,!⟨.inl (u.same.seq O),_,!⟨rfl,!?_⟩⟩⟩;refine kC (λN=> ?_) (λN=>els);have cC:=qD N;rw [eR]at cC;have lj:0 < ns.length:=by lia
  have xK:atI (ns.map V.int) 0=some (.int (ns.getD 0 0)):=zN (j:=0) (int_at lj);have tT:atI (ns.map V.int) (-1)=some (.int (ns.getD (ns.length - 1) 0)):=zce lj;refine !⟨cp,_,_,!⟨rfl,u.same.seq O,xK,_,!⟨rfl,(by show(0:Int) < 9;decide),rfl,!?_⟩⟩⟩;refine kC (λhc=> ?_) (λhc=>els);refine⟨z0,λep ak=> ?_⟩;refine ze (upd _ ep _) rfl ak λG2 R y2=> ?_
  generalize ns.getD (ns.length - 1) 0=lst at tT;refine !(!(!⟨cp,_,_,!⟨rfl,(u.same.trans R).seq O,tT,_,!⟨rfl,(by show(0:Int) < 3;decide),?_⟩⟩⟩));have d:=u.new R;have pz:ep≠rp:=(zy u.top ak).symm;have pA:H rp=none:=s3.free dY;have eU:lst % 3=0\/lst % 3=1\/lst % 3=2:=by lia
  have kp:∀{q:Addr} {rs:List (Addr×List Int)} {o:HO},RowsAt G2 q rs->q≠rp->RowsAt (upd G2 rp o) q rs:=λ{q rs o} h n=>h.kp z2w n λr m z=>by
   have h1:=(h.2 r m).2;rw [z,d.top]at h1;have h2:=Qj (λx=>match x with | some (HO.lst xs)=>xs | _=> []) h1;have I: [V.ref r0,V.ref r1,V.ref r2]=r.2.map V.int:=h2;cases de:r.2 with
   | nil=>rw [de]at I;cases I
   | cons x xs=>rw [de]at I;cases I
  rcases eU with eU | eU | eU
  ·refine⟨rp,_,_,0,rfl,rfl,d.top,by rw [eU];rfl,?_⟩;exact⟨ep,r1,r2,[],b,c,rfl,(d.same).put pA,zl,by rw [zn ph];exact R _ _ gM,kp (ky y2) pz,kp d.h1 d.np1.symm,kp d.h2 d.np2.symm,λ_ z=>(by cases z),d.w1,d.w2,Q6 _,by lia,by lia⟩
  ·refine⟨rp,_,_,1,rfl,rfl,d.top,by rw [eU];rfl,?_⟩;exact⟨r0,ep,r2,a,[],c,rfl,(d.same).put pA,zl,by rw [zn ph];exact R _ _ gM,kp d.h0 d.np0.symm,kp (ky y2) pz,kp d.h2 d.np2.symm,d.w0,λ_ z=>(by cases z),d.w2,pi,Q6 _,by lia⟩
  ·refine⟨rp,_,_,2,rfl,rfl,d.top,by rw [eU];rfl,?_⟩;exact⟨r0,r1,ep,a,b,[],rfl,(d.same).put pA,zl,by rw [zn ph];exact R _ _ gM,kp d.h0 d.np0.symm,kp d.h1 d.np1.symm,kp (ky y2) pz,d.w0,d.w1,λ_ z=>(by cases z),pi,by lia,Q6 _⟩
 rintro σ G2 ⟨s0,s1,s2,a,b,c,rfl,xL,top2,gT,j0,j1,j2,w0,w1,w2,c0,c1,c2⟩;refine !(!(zx top2 zF ⟨(zq rfl),λt0 as=> ?_⟩));refine ze (upd _ t0 _) rfl as λG3 e3 y3=> ?_
 refine⟨(zq rfl),λwl aR=> ?_⟩;refine ze (upd _ wl _) rfl aR λG4 e4 y4=> ?_
 refine !(zx (e4 _ _ (e3 _ _ top2)) j6 ⟨(zq rfl),λt1 ar=> ?_⟩);refine ze (upd _ t1 _) rfl ar λG5 e5 y5=> ?_
 refine⟨(zq rfl),λmp oT=> ?_⟩;refine ze (upd _ mp _) rfl oT λG6 e6 y6=> ?_
 have tU:=e3.trans (e4.trans (e5.trans e6));refine !⟨(zq rfl),λxl ap=> ?_⟩;refine ze (upd _ xl _) rfl ap λG9 e9 y9=> ?_
 refine !(zx (e9 _ _ (tU _ _ top2)) jr ⟨(zq rfl),λt2 cW=> ?_⟩);refine ze (upd _ t2 _) rfl cW λay am sJ=> ?_
 refine⟨(zq rfl),λbp ao=> ?_⟩;refine ze (upd _ bp _) rfl ao λax ae oF=> ?_
 have lA:=e9.trans (am.trans ae);refine⟨mp,bp,_,!⟨rfl,lA _ _ y6,oF,(zq rfl),λag ai=> ?_⟩⟩;refine ze (upd _ ag _) rfl ai λaz ac oG=> ?_
 have eV:=lA.trans ac;have dQ:=tU.trans eV;have tok:=tabs_ok (m:=m.toNat) (r0:=a.map (·.2)) (r1:=b.map (·.2)) (r2:=c.map (·.2)) (by lia) (by lia) (λr mm=>by obtain⟨x,hx,rfl⟩:=qI.mp mm;rw [iY];exact w0 x hx) (λr mm=>by obtain⟨x,hx,rfl⟩:=qI.mp mm;exact w1 x hx)
  (λr mm=>by obtain⟨x,hx,rfl⟩:=qI.mp mm;exact w2 x hx) (by rw [w9];exact c0) (by rw [w9];exact c1) (by rw [w9];exact c2)
 refine fin ag _ _ _ (xL.trans dQ) tok ⟨.ref t0,.ref t1,.ref t2,oG,⟨t0,hp,s0,a,rfl,?_,?_,j0.same dQ,?_⟩,⟨t1,wl,s1,b,rfl,?_,?_,j1.same dQ,?_⟩,⟨t2,xl,s2,c,rfl,?_,?_,j2.same dQ,?_⟩⟩
 ·exact(e4.trans (e5.trans (e6.trans eV))) _ _ y3
 ·rw [show z3n (jj.take m.toNat) "t"=jj.take m.toNat by unfold z3n;rw [wU (by decide +kernel),wU (by decide +kernel)]];exact dQ _ _ gT
 ·unfold z4Y;rw [wY rfl]
 ·exact(e6.trans eV) _ _ y5
 ·rw [show z3n (jj.take m.toNat) "tuvtuvtuvw"=z2B by unfold z3n;rw [wY rfl]];exact(e5.trans (e6.trans eV)) _ _ y4
 ·unfold z4Y;rw [wU (by decide +kernel),wY rfl]
 ·exact(ae.trans ac) _ _ sJ
 ·rw [show z3n (jj.take m.toNat) "tuvtuvtuvx"=(["e"]:List Str) by unfold z3n;rw [wU (by decide +kernel),wY rfl]];exact(am.trans (ae.trans ac)) _ _ y9
 ·unfold z4Y;rw [wU (by decide +kernel),wU (by decide +kernel)]
inductive spTexts (K:W.Frag) (vs:List V) (H:Hp) (Q:VK) (E:XK):Prop
 | mk:∀a b (ss:List Str),vs= [.ref a,.ref b]->H a=some (.lst (ss.map V.str))->SqL K H b (ss.map V.str)->ss.length<=100000->Q (.bl true) H->spTexts K vs H Q E
theorem z2p:FnScope ["_law_found","_law_due","_law_k"] ["_law_found","_law_due"] (zm z1m):=by walk_at "s"
theorem z54(F:Fun K "_law_texts" "_law_texts" z1m f fd)(T:Txt K mg):FnOk P w K mg base CX0 1 f fd ["_law_found","_law_due"] (spTexts K):=by
 refine F.okB z2p (λvs H Q E h=> ?_) (λvs H Q E h=> ?_)
 ·obtain⟨a,b,ss,rfl,_⟩:=h
  rfl
 obtain⟨a,b,ss,rfl,ha,c,hz,q⟩:=h;intro ad A outer p hr;refine⟨_,(zc (zC (z1K (jT (zY (zR zS rfl T.isinstance wO (zf v0 (zf (jQ (v:= .ty "list") rfl T.list qR rfl) zb))))) (cmT z05 (leN T.len (zf v0 zb)) (leN T.len (zf v1 zb))))
   (zg (zt jD))
   zu)
  (zc (foR (jW rfl T.range (zX (leN T.len (zf v1 zb)) zb)) (gnM 2 z2p)
   (zg (zC (z1K (jT (zY (zR zS rfl T.isinstance wO (zj (ixL v0 v2) (zf (jQ (v:= .ty "str") rfl T.str Q0 rfl) zb))))) (cmT z05 (ixL v0 v2) (ixL v1 v2)))
    (zg (zt jD))
    zu)))
  (zg (zt jD)))),?_⟩
 generalize hK0:K=K1
 revert K1
 refine jq (by walk_at "cl") ?_;have hl:(ss.map V.str).length=ss.length:=w9 _;have o: -(2 ^ 62)<=(((ss.map V.str).length:Nat):Int):=by lia
 have j:(((ss.map V.str).length:Nat):Int) < 2 ^ 62:=by rw [hl];lia
 refine !⟨_,_,_,!⟨TyOf.lst ha,jC,!⟨_,(!⟨a,!⟨.inl (SqL.of ha),!⟨b,!⟨.inl c,rfl,!⟨rfl,rfl⟩⟩⟩⟩⟩),?_⟩⟩⟩;refine ifF (by simp) ?_;refine !⟨b,!⟨.inl c,!⟨o,j,z0v (lo:=0) (n:=(ss.map V.str).length) (λi σ H2=>∃v:Option V,σ= [some (.ref a),some (.ref b),v]/\H2=H) ⟨none,rfl,rfl⟩ ?_ ?_⟩⟩⟩
 ·rintro i σ H2 hi ⟨v,rfl,rfl⟩;have l:i < ss.length:=by rw [hl]at hi;exact hi
  have e:(ss.map V.str)[i]? =some (.str ss[i]):=by
   rw [wQ,we l]
   rfl
  have d:atI (ss.map V.str) (0 + (i:Int))=some (.str ss[i]):=by
   rw [QH];exact zN e
  refine !(!(zx ha d ⟨_,_,_,!⟨TyOf.str _,jC,!⟨_,(!(!(zx ha d (!(!⟨b,_,_,!⟨rfl,c,d,rfl,!⟨rfl,rfl⟩⟩⟩))))),?_⟩⟩⟩));refine ifF (by simp) ?_;exact !rfl
 ·rintro σ H2 ⟨v,rfl,rfl⟩;exact q
inductive spWhole (vs:List V) (H:Hp) (Q:VK) (E:XK):Prop
 | mk:∀v b,vs= [v]->(∃i,v= .int i/\b=true)\/(b=false/\((∃s,v= .str s)\/∃p xs,v= .ref p/\H p=some (.tup xs)))->Q (.bl b) H->spWhole vs H Q E
theorem z6X:PySem.W.kitOne K (.type "str") (.type "int")=some false:=by kernel_rfl
theorem z65:PySem.W.kitOne K (.type "str") (.type "bool")=some false:=by kernel_rfl
theorem z6C:PySem.W.kitOne K (.type "tuple") (.type "int")=some false:=by kernel_rfl
theorem z6m:PySem.W.kitOne K (.type "tuple") (.type "bool")=some false:=by kernel_rfl
theorem z73:PySem.W.kitOne K (.type "tuple") (.type "str")=some false:=by kernel_rfl
theorem z52:FnScope ["_law_found"] ["_law_found"] (zm z1j):=by walk_at "s"
theorem z58(F:Fun K "_law_whole" "_law_whole" z1j f fd)(T:Txt K mg):FnOk P w K mg base CX0 1 f fd ["_law_found"] spWhole:=by
 refine F.okB z52 (λvs H Q E h=> ?_) (λvs H Q E h=> ?_)
 ·obtain⟨v,b,rfl,_⟩:=h
  rfl
 obtain⟨v,b,rfl,a,q⟩:=h;intro ad A outer c hr;refine⟨_,(zg (zt (zcm (zR zS rfl T.isinstance wO (zf v0 (zf (jQ (v:= .ty "int") rfl T.int PyProof.Rows.boot_int rfl) zb))) (zbE (zR zS rfl T.isinstance wO (zf v0 (zf (jQ (v:= .ty "bool") rfl T.bool PyProof.Rows.boot_bool rfl) zb))))))),?_⟩;generalize hK0:K=K1
 revert K1
 refine jq (by walk_at "cl") ?_;rcases a with⟨i,rfl,rfl⟩ | ⟨rfl,⟨s,rfl⟩ | ⟨p,xs,rfl,hp⟩⟩
 rotate_left
 ·exact !⟨_,_,_,!⟨TyOf.str s,z6X,!⟨_,(!⟨_,_,_,!⟨TyOf.str s,z65,!⟨rfl,rfl⟩⟩⟩),q⟩⟩⟩
 ·exact !⟨_,_,_,!⟨TyOf.tup hp,z6C,!⟨_,(!⟨_,_,_,!⟨TyOf.tup hp,z6m,!⟨rfl,rfl⟩⟩⟩),q⟩⟩⟩
 exact !⟨_,_,_,!⟨TyOf.int i,jC,!⟨_,(!⟨_,_,_,!⟨TyOf.int i,z5X,!⟨rfl,rfl⟩⟩⟩),q⟩⟩⟩
inductive spNumbers (K:W.Frag) (vs:List V) (H:Hp) (Q:VK) (E:XK):Prop
 | mk:∀a b (ns:List Int),vs= [.ref a,.ref b]->H a=some (.lst (ns.map V.int))->SqL K H b (ns.map V.int)->ns.length<=100000->Q (.bl true) H->spNumbers K vs H Q E
theorem z1B:FnScope ["_law_found","_law_due","_law_k"] ["_law_found","_law_due"] (zm z0A):=by walk_at "s"
theorem z3K(F:Fun K "_law_numbers" "_law_numbers" z0A f fd)(T:Txt K mg)(c:Kn P w K mg base 1 "_law_whole" ["_law_found"] spWhole):FnOk P w K mg base CX0 2 f fd ["_law_found","_law_due"] (spNumbers K):=by
 refine F.okB z1B (λvs H Q E h=> ?_) (λvs H Q E h=> ?_)
 ·obtain⟨a,b,ns,rfl,_⟩:=h
  rfl
 obtain⟨a,b,ns,rfl,ha,d,hz,q⟩:=h;intro ad A outer p hr;refine⟨_,(zc (zC (z1K (jT (zY (zR zS rfl T.isinstance wO (zf v0 (zf (jQ (v:= .ty "list") rfl T.list qR rfl) zb))))) (cmT z05 (leN T.len (zf v0 zb)) (leN T.len (zf v1 zb))))
   (zg (zt jD))
   zu)
  (zc (foR (jW rfl T.range (zX (leN T.len (zf v1 zb)) zb)) (gnM 2 z1B)
   (zg (zC (z1K (jT (zY (zW c hr.m (zj (ixL v0 v2) zb)))) (cmT z05 (ixL v0 v2) (ixL v1 v2)))
    (zg (zt jD))
    zu)))
  (zg (zt jD)))),?_⟩
 generalize hK0:K=K1
 revert K1
 refine jq (by walk_at "cl") ?_;have hl:(ns.map V.int).length=ns.length:=w9 _;have o: -(2 ^ 62)<=(((ns.map V.int).length:Nat):Int):=by lia
 have j:(((ns.map V.int).length:Nat):Int) < 2 ^ 62:=by rw [hl];lia
 refine !⟨_,_,_,!⟨TyOf.lst ha,jC,!⟨_,(!⟨a,!⟨.inl (SqL.of ha),!⟨b,!⟨.inl d,rfl,!⟨rfl,rfl⟩⟩⟩⟩⟩),?_⟩⟩⟩;refine ifF (by simp) ?_;refine !⟨b,!⟨.inl d,!⟨o,j,z0v (lo:=0) (n:=(ns.map V.int).length) (λi σ H2=>∃v:Option V,σ= [some (.ref a),some (.ref b),v]/\H2=H) ⟨none,rfl,rfl⟩ ?_ ?_⟩⟩⟩
 ·rintro i σ H2 hi ⟨v,rfl,rfl⟩;have l:i < ns.length:=by rw [hl]at hi;exact hi
  have e:atI (ns.map V.int) (0 + (i:Int))=some (.int ns[i]):=by
   rw [QH];exact zN (by rw [wQ,we l];rfl)
  refine !(!(zx ha e ⟨_,_,rfl,.inl ⟨_,rfl,rfl⟩,!⟨_,(!(!(zx ha e (!(!⟨b,_,_,!⟨rfl,d,e,rfl,!⟨rfl,rfl⟩⟩⟩))))),?_⟩⟩));refine ifF (by simp) ?_;exact !rfl
 ·rintro σ H2 ⟨v,rfl,rfl⟩;exact q
inductive spAlike (K:W.Frag) (vs:List V) (H:Hp) (Q:VK) (E:XK):Prop
 | mk:∀a b rs qs,vs= [.ref a,.ref b]->RowsAt H a rs->RowsAt H b qs->rs.map (·.2)=qs.map (·.2)->rs.length<=100000->(∀r∈rs,r.2.length<=100000)->Q (.bl true) H->spAlike K vs H Q E
theorem z2k:FnScope ["_law_found","_law_due","_law_k"] ["_law_found","_law_due"] (zm z1v):=by walk_at "s"
theorem z53(F:Fun K "_law_alike" "_law_alike" z1v f fd)(T:Txt K mg)(c:Kn P w K mg base 2 "_law_numbers" ["_law_found","_law_due"] (spNumbers K)):FnOk P w K mg base CX0 3 f fd ["_law_found","_law_due"] (spAlike K):=by
 refine F.okB z2k (λvs H Q E h=> ?_) (λvs H Q E h=> ?_)
 ·obtain⟨a,b,rs,qs,rfl,_⟩:=h
  rfl
 obtain⟨a,b,rs,qs,rfl,ha,d,l,hz,p,q⟩:=h;intro ad A outer s hr;refine⟨_,(zc (zC (z1K (jT (zY (zR zS rfl T.isinstance wO (zf v0 (zf (jQ (v:= .ty "list") rfl T.list qR rfl) zb))))) (cmT z05 (leN T.len (zf v0 zb)) (leN T.len (zf v1 zb))))
   (zg (zt jD))
   zu)
  (zc (foR (jW rfl T.range (zX (leN T.len (zf v1 zb)) zb)) (gnM 2 z2k)
   (zg (zC (jT (zY (zW c hr.m (zj (ixL v0 v2) (zj (ixL v1 v2) zb)))))
    (zg (zt jD))
    zu)))
  (zg (zt jD)))),?_⟩
 generalize hK0:K=K1
 revert K1
 refine jq (by walk_at "cl") ?_;have o:(refs rs).length=rs.length:=w9 _;have j:(refs qs).length=qs.length:=w9 _;have hl:rs.length=qs.length:=by
  have:=Qj List.length l
  rwa [w9,w9]at this
 refine !⟨_,_,_,!⟨TyOf.lst ha.1,jC,!⟨_,(!⟨a,!⟨.inl (SqL.of ha.1),!⟨b,!⟨.inl (SqL.of d.1),rfl,!⟨rfl,rfl⟩⟩⟩⟩⟩),?_⟩⟩⟩;refine ifF (by rw [o,j,hl];simp) ?_;refine !⟨b,!⟨.inl (SqL.of d.1),!⟨by lia,by rw [j];lia,z0v (lo:=0) (n:=(refs qs).length) (λi σ H2=>∃v:Option V,σ= [some (.ref a),some (.ref b),v]/\H2=H) ⟨none,rfl,rfl⟩ ?_ ?_⟩⟩⟩
 ·rintro i σ H2 hi ⟨v,rfl,rfl⟩;rw [j]at hi;have e:i < rs.length:=by lia
  have r:rs[i].2=qs[i].2:=by
   have h1:(rs.map (·.2))[i]? =some rs[i].2:=by rw [wQ,we e];rfl
   rw [l,wQ,we hi]at h1;exact(Option.some.inj h1).symm
  refine !(!(zx ha.1 (z66 e) (!(!(zx d.1 (z66 hi) ⟨rs[i].1,qs[i].1,rs[i].2,rfl,(ha.2 _ (wI e)).2,SqL.of (by rw [r];exact(d.2 _ (wI hi)).2),p _ (wI e),!?_⟩)))));refine ifF (by rfl) ?_;exact !rfl
 ·rintro σ H2 ⟨v,rfl,rfl⟩;exact q
structure TxtP(K:W.Frag)(mg:Str->Option Value):Prop where
 set:mg "set"=none
 two:∃a,mg "TWOFOLD"=some (.ref a)/\∀H,SqT K H a [.str "pair",.str "join",.str "both"]
inductive Kid where
 | s (x:Side) | c (x:Cond)
def Kid.At(H:Hp)(k:V×Kid):Prop:=match k.2 with
 | .s x=>k.1=x.v
 | .c x=>zG H x k.1
noncomputable def Kid.cols:Kid->List Str
 | .s x=>x.cols
 | .c x=>x.cols
noncomputable def Kid.size:Kid->Nat
 | .s _=>0
 | .c x=>x.size
theorem z9T{v:V}(h:zG H c v):∃(p:Addr) (w:Str) (ks:List (V×Kid)),v= .ref p/\H p=some (.tup (.str w :: ks.map (·.1)))/\ks.length<=2/\ks≠ []/\(∀k∈ks,Kid.At H k)/\(∀s,s∈c.cols↔∃k∈ks,s∈k.2.cols)/\(ks.map λk=>k.2.size).sum + 1=c.size:=by
 cases c with
 | less a b=>
  obtain⟨p,rfl,h⟩:=h;exact⟨p,_,[(a.v,.s a),(b.v,.s b)],rfl,h,by simp,by simp,by simp [Kid.At],by simp [Cond.cols,Kid.cols],rfl⟩
 | same a b=>
  obtain⟨p,rfl,h⟩:=h;exact⟨p,_,[(a.v,.s a),(b.v,.s b)],rfl,h,by simp,by simp,by simp [Kid.At],by simp [Cond.cols,Kid.cols],rfl⟩
 | no c=>
  obtain⟨p,x,rfl,h,h1⟩:=h;exact⟨p,_,[(x,.c c)],rfl,h,by simp,by simp,by simpa [Kid.At]using h1,by simp [Cond.cols,Kid.cols],rfl⟩
 | an c d=>
  obtain⟨p,x,y,rfl,h,h1,h2⟩:=h;exact⟨p,_,[(x,.c c),(y,.c d)],rfl,h,by simp,by simp,by simpa [Kid.At]using ⟨h1,h2⟩,by simp [Cond.cols,Kid.cols],by simp [Kid.size,Cond.size]⟩
 | or c d=>
  obtain⟨p,x,y,rfl,h,h1,h2⟩:=h;exact⟨p,_,[(x,.c c),(y,.c d)],rfl,h,by simp,by simp,by simpa [Kid.At]using ⟨h1,h2⟩,by simp [Cond.cols,Kid.cols],by simp [Kid.size,Cond.size]⟩
theorem z3j(x:V)(r:List V):z0H (x :: r) (some 1) none=r:=by
 have e:HT.sIx (x :: r).length 0 (some 1)=1:=by
  have e:HT.sIx (x :: r).length 0 (some 1)=min 1 (r.length + 1):=rfl;rw [e]
  lia
 unfold z0H;rw [e]
 show(r.take ((r.length + 1) - 1))=r
 rw [Nat.add_sub_cancel,qH]
theorem z3b(x:V)(r:List V):¬(HT.sIx (x :: r).length 0 (some 1)=0/\HT.sIx (x :: r).length (x :: r).length none=(x :: r).length):=by
 rintro⟨h,_⟩;have e:HT.sIx (x :: r).length 0 (some 1)=min 1 (r.length + 1):=rfl;rw [e]at h
 lia
theorem zbH{kvs:List (Key×V)}{v:V}(a:kvs.map (·.1)=ss.map Sum.inr)(nd:ss.Nodup):
  ∃b:List Str,(putK kvs (Sum.inr n) v).map (·.1)=b.map Sum.inr/\b.Nodup/\∀s,s∈b↔s∈ss\/s=n:=by
 have mem:∀s,Sum.inr s∈kvs.map (·.1)↔s∈ss:=λs=>by
  rw [a];simp
 cases e:z1E kvs (Sum.inr n:Key)with
 | some w=>
  have hn:n∈ss:=(mem n).mp (zbV e);refine⟨ss,?_,nd,λs=>⟨.inl,λh=>h.elim id λz=>z ▸ hn⟩⟩;unfold putK;rw [z17,e];rw [Option.isSome_some,wY rfl,w11,<-a];refine w1h λkv _=> ?_
  show(if kv.1=Sum.inr n then(kv.1,v)else kv).1=kv.1
  split <;> rfl
 | none=>
  have hn:n∉ss:=λz=>za6 e ((mem n).mpr z)
  refine⟨ss ++ [n],?_,z8K nd hn,λs=>by simp⟩;rw [zaw v e,wK,a,wK]
  rfl
inductive spCols (K:W.Frag) (vs:List V) (H:Hp) (Q:VK) (E:XK):Prop
 | mk:∀c vc (us:List Str),vs= [vc]->zG H c vc->c.size<=1000->(∀s∈c.cols,s∈us)->us.length<=60->(∀(l:Addr) (ss:List Str) (H':Hp),zz H H'->H' l=some (.lst (ss.map V.str))->ss.Nodup->(∀s,s∈ss↔s∈c.cols)->ss.Pairwise leS->Q (.ref l) H')->spCols K vs H Q E
noncomputable def yA(fs:List (V×Cond)):Nat:=(fs.map λi=>i.2.size).sum
theorem z1a(its:List (V×Cond))(i:V×Cond):yA (its ++ [i])=yA its + i.2.size:=by simp [yA]
theorem z48:∀its:List (V×Cond),its.length<=yA its
 | []=>wu _
 | i :: r=>by
  have h1:=z48 r;have h2:=i.2.size_pos;have a:yA (i :: r)=i.2.size + yA r:=by simp [yA]
  rw [a,wP]
  lia
theorem yN:FnScope ["condition","names","waiting","part","inner"] ["condition"] (zm z1q):=by walk_at "s"
theorem z4W(F:Fun K "columns_of" "columns_of" z1q f fd)(T:Txt K mg):FnOk P w K mg base CX0 1 f fd ["condition"] (spCols K):=by
 refine F.okB yN (λvs H Q E h=> ?_) (λvs H Q E h=> ?_)
 ·obtain⟨c,vc,us,rfl,_⟩:=h
  rfl
 obtain⟨c,vc,us,rfl,hc,hz,dD,xN,q⟩:=h;intro ad A outer sh hr;have hu:=z1x hr;refine⟨_,(zc (seT 1 yN z9Z)
  (zc (seT 2 yN (zw (zf v0 zb)))
  (zc (z7d (z2X v2 (λ_=>rfl))
   (zc (seT 3 yN (z3d qB QZ w00 z3p v2))
   (zg (foR (z3q (jc z14 v3 (jk zd) jx)) (gnM 4 yN)
    (zg (zC (zY (zR zS rfl T.isinstance wO (zf v4 (zf (jQ (v:= .ty "tuple") rfl T.tuple Qg rfl) zb))))
     (zg (jh (apP v2 (zf v4 zb))))
     (zg (zC (zY (zR zS rfl T.isinstance wO (zf v4 (zf (jQ (v:= .ty "str") rfl T.str Q0 rfl) zb))))
      (zg (z41 hu v1 v4 jD rfl))
      zu))))))))
  (zg (zt (zR (z4S rfl) rfl T.sorted PyProof.Rows.boot_sorted (zO (pv 1) zb))))))),?_⟩
 generalize hK0:K=K1
 revert K1
 refine jq (by walk_at "cl") ?_;refine λd hd=> ?_
 refine !⟨(by show 1<=sizeLine;decide),λwt U=> ?_⟩;have s1:=zJ hd (.dK []);have s2:=zJ U (.lst [vc]);have fw:H wt=none:=s1.free U;have R:d≠wt:=zy (H:=upd H d (.dK [])) zl U;refine z2Q ?_;dsimp only;refine z45 ?_;refine z0N (λm σ H'=>∃(fs:List (V×Cond)) (kvs:List (Key×V)) (ss:List Str) (o3 u:Option V),σ= [some vc,some (.ref d),some (.ref wt),o3,u]/\zz H H'/\H' wt=some (.lst (fs.map (·.1)))/\H' d=some (.dK kvs)/\
   kvs.map (·.1)=ss.map Sum.inr/\ss.Nodup/\(∀g∈fs,zG H g.2 g.1)/\(∀s,s∈c.cols↔s∈ss\/∃g∈fs,s∈g.2.cols)/\m=yA fs/\m<=c.size) c.size
  ⟨[(vc,c)],[],[],none,none,rfl,s1.trans s2,zl,s2 _ _ zl,rfl,List.nodup_nil,by simpa using hc,by simp,by simp [yA],wu _⟩ ?_
 rintro m σ H' ⟨fs,kvs,ss,o3,u,rfl,sH,O,tV,hk,nd,e,mem,rfl,hm⟩;have pC:kvs.length=ss.length:=by
  have:=Qj List.length hk
  rwa [w9,w9]at this
 have tW:∀{ss:List Str},ss.Nodup->(∀s,s∈ss->s∈c.cols)->ss.length<=60:=λnd h=>wW (yZ nd λx J=>dD x (h x J)) xN
 refine !⟨_,.inl ⟨_,SqL.of O,rfl⟩,?_⟩;by_cases ao:fs= []
 ·subst ao;refine ifF (by rfl) ?_;have aO:∀s,s∈ss↔s∈c.cols:=λs=>by rw [mem s];simp
  have xO:=tW nd λs h=>(aO s).mp h
  refine !⟨d,kvs,ss,rfl,tV,hk,by lia,λl S hl pm so=> ?_⟩;exact q l S _ (sH.trans (zJ hl _)) zl (pm.nodup_iff.mpr nd) (λs=>by rw [pm.mem_iff];exact aO s) (z9j so)
 ·obtain⟨gs,g,rfl⟩:=z42 ao;refine ifT (by simp) ?_;refine⟨_,λσ' H' z=>z,?_⟩;obtain⟨M,b⟩:=g;rw [z1a]at hm ⊢;replace hm:yA gs + b.size<=c.size:=hm;have hg:zG H b M:=e (M,b) (by simp);have g9:∀g∈gs,zG H g.2 g.1:=λg h=>e g (by simp [h])
  have e1:((gs ++ [(M,b)]).map (·.1))=gs.map (·.1) ++ [M]:=by rw [wK];rfl
  rw [e1]at O;obtain⟨p,word,ks,rfl,hp,dg,DP,pD,fM,xP⟩:=z9T hg;refine !⟨.inl ⟨rfl,_,SqL.of O⟩,wt,ex2 rfl rfl ⟨O,z2c _ _,?_⟩⟩;have eh:upd H' wt (.lst ((gs.map (·.1) ++ [V.ref p]).dropLast))=upd H' wt (.lst (gs.map (·.1))):=by
   rw [w08]
  rw [eh];have Z:zz H (upd H' wt (.lst (gs.map (·.1)))):=sH.put fw;have h3:upd H' wt (.lst (gs.map (·.1))) wt=some (.lst (gs.map (·.1))):=zl;have d3:upd H' wt (.lst (gs.map (·.1))) d=some (.dK kvs):=by rw [zn R];exact tV
  generalize upd H' wt (.lst (gs.map (·.1)))=H3 at Z h3 d3 ⊢;refine !(!⟨p,!⟨SqT.of (Z _ _ hp),z3b _ _,λt ht=> ?_⟩⟩);rw [z3j];have L:=zJ ht (.tup (ks.map (·.1)));have h4:=L _ _ h3;have d4:=L _ _ d3;have t4:upd H3 t (.tup (ks.map (·.1))) t=some (.tup (ks.map (·.1))):=zl;generalize upd H3 t (.tup (ks.map (·.1)))=H4 at L h4 d4 t4 ⊢;have dR:(ks.map (·.1)).length=ks.length:=w9 _;refine⟨t,rfl,⟨_,SqT.of t4⟩,z61 (K:=K) (a:=t) (xs:=ks.map (·.1)) (λi σ o=>∃(fs:List (V×Cond)) (kvs:List (Key×V)) (ss:List Str) (u:Option V),σ= [some vc,some (.ref d),some (.ref wt),some (.ref p),u]/\zz H o/\o t=some (.tup (ks.map (·.1)))/\o wt=some (.lst (fs.map (·.1)))/\o d=some (.dK kvs)/\
   kvs.map (·.1)=ss.map Sum.inr/\ss.Nodup/\(∀g∈fs,zG H g.2 g.1)/\(∀s,s∈c.cols↔s∈ss\/(∃g∈fs,s∈g.2.cols)\/∃k∈ks.drop i,s∈k.2.cols)/\yA fs + ((ks.drop i).map λk=>k.2.size).sum + 1=yA gs + b.size)
   ⟨gs,kvs,ss,u,rfl,Z.trans L,t4,h4,d4,hk,nd,g9,λs=> ?_,by rw [w1a];lia⟩ (λi σ o _ ⟨_,_,_,_,_,_,X,_⟩=>SqT.of X) ?_ ?_⟩
  ·rw [mem s,w1a];constructor
   ·rintro(h | ⟨g,hg,h⟩)
    ·exact .inl h
    ·rcases wA.mp hg with hg | hg
     ·exact .inr (.inl ⟨g,hg,h⟩)
     ·rw [wz.mp hg]at h;exact .inr (.inr ((fM s).mp h))
   ·rintro(h | ⟨g,hg,h⟩ | h)
    ·exact .inl h
    ·exact .inr ⟨g,qc _ hg,h⟩
    ·exact .inr ⟨(V.ref p,b),by simp,(fM s).mpr h⟩
  ·rintro i x σ o hi ⟨fs,kvs,ss,u,rfl,B,G,r,I,hk,nd,e,mem,D⟩;have Y:i < ks.length:=by
    have:=(wk.mp hi).1
    rwa [dR]at this
   have J:x=ks[i].1:=by
    rw [wQ,we Y]at hi;exact(Option.some.inj hi).symm
   have pE:ks.drop i=ks[i] :: ks.drop (i + 1):=List.drop_eq_getElem_cons Y;have N:=pD ks[i] (wI Y);obtain⟨⟨kv,kk⟩,xQ⟩:∃k,ks[i]=k:=⟨_,rfl⟩
   rw [xQ]at J N pE;replace J:kv=x:=J.symm;subst J;rw [pE]at mem D;have pC:kvs.length=ss.length:=by
    have:=Qj List.length hk
    rwa [w9,w9]at this
   have xO:=tW nd λs h=>(mem s).mpr (.inl h)
   have DQ:=z48 fs;have pG:((kv,kk) :: ks.drop (i + 1)).map (λk=>k.2.size)=kk.size :: (ks.drop (i + 1)).map (λk=>k.2.size):=rfl;rw [pG,Qa]at D;cases kk with
   | c y=>
    have C:zG H y kv:=N
    obtain⟨p2,x2,rfl,bX⟩:=C.ref;refine !⟨_,_,_,!⟨TyOf.tup (B _ _ bX),jC,!?_⟩⟩;refine z9L ?_;refine !⟨.inl ⟨rfl,_,SqL.of r⟩,!⟨wt,ex2 rfl rfl ⟨r,zK (by rw [w9];lia),?_⟩⟩⟩;have tw:t≠wt:=z5G G r (by intro z;cases z);refine⟨fs ++ [(V.ref p2,y)],kvs,ss,!⟨B.put fw,by rw [zn tw];exact G,by rw [zl,wK];rfl,by rw [zn R];exact I,hk,nd,λg hg=> ?_,λs=> ?_,?_⟩⟩
    ·rcases wA.mp hg with hg | hg
     ·exact e g hg
     ·rw [wz.mp hg];exact C
    ·rw [mem s];simp only [wH,wA,qz,QD];constructor
     ·rintro(h | ⟨g,hg,h⟩ | ⟨k,rfl | hk,h⟩)
      ·exact .inl h
      ·exact .inr (.inl ⟨g,.inl hg,h⟩)
      ·exact .inr (.inl ⟨_,.inr rfl,h⟩)
      ·exact .inr (.inr ⟨k,hk,h⟩)
     ·rintro(h | ⟨g,hg | rfl,h⟩ | ⟨k,hk,h⟩)
      ·exact .inl h
      ·exact .inr (.inl ⟨g,hg,h⟩)
      ·exact .inr (.inr ⟨_,.inl rfl,h⟩)
      ·exact .inr (.inr ⟨k,.inr hk,h⟩)
    ·rw [z1a]
     show yA fs + y.size + _ + 1=_
     have:(Kid.c y).size=y.size:=rfl
     lia
   | s y=>
    cases y with
    | nm n=>
     have C:kv=V.str n:=N
     subst C;refine !⟨_,_,_,!⟨TyOf.str n,z0U,!?_⟩⟩;refine z7E ?_;refine !⟨_,_,_,!⟨TyOf.str n,jC,!?_⟩⟩;refine z9L ?_;refine !(!⟨d,!⟨z6y.k (k:=Sum.inr n) I (zK (by lia)),?_⟩⟩);obtain⟨S,cg,mP,pH⟩:=zbH (n:=n) (v:=V.bl true) hk nd;have td:t≠d:=z5G G I (by intro z;cases z);have fd:H d=none:=hd;refine⟨fs,_,S,!⟨B.put hd,by rw [zn td];exact G,by rw [zn R.symm];exact r,zl,cg,mP,e,λs=> ?_,?_⟩⟩
     ·rw [mem s,pH s];simp only [wH];constructor
      ·rintro(h | h | ⟨k,rfl | hk,h⟩)
       ·exact .inl (.inl h)
       ·exact .inr (.inl h)
       ·exact .inl (.inr (by simpa [Kid.cols,Side.cols]using h))
       ·exact .inr (.inr ⟨k,hk,h⟩)
      ·rintro((h | rfl) | h | ⟨k,hk,h⟩)
       ·exact .inl h
       ·exact .inr (.inr ⟨_,.inl rfl,by simp [Kid.cols,Side.cols]⟩)
       ·exact .inr (.inl h)
       ·exact .inr (.inr ⟨k,.inr hk,h⟩)
     ·have:(Kid.s (.nm n)).size=0:=rfl
      lia
    | nu j=>
     have C:kv=V.int j:=N
     subst C;refine !⟨_,_,_,!⟨TyOf.int j,z15,!?_⟩⟩;refine z7E ?_;refine !⟨_,_,_,!⟨TyOf.int j,z09,!?_⟩⟩;refine z7E ?_;refine⟨fs,kvs,ss,!⟨B,G,r,I,hk,nd,e,λs=> ?_,?_⟩⟩
     ·rw [mem s];simp only [wH];constructor
      ·rintro(h | h | ⟨k,rfl | hk,h⟩)
       ·exact .inl h
       ·exact .inr (.inl h)
       ·exact absurd h (by simp [Kid.cols,Side.cols])
       ·exact .inr (.inr ⟨k,hk,h⟩)
      ·rintro(h | h | ⟨k,hk,h⟩)
       ·exact .inl h
       ·exact .inr (.inl h)
       ·exact .inr (.inr ⟨k,.inr hk,h⟩)
     ·have:(Kid.s (.nu j)).size=0:=rfl
      lia
  ·rintro σ o ⟨fs,kvs,ss,u,rfl,B,G,r,I,hk,nd,e,mem,D⟩;have lC:ks.drop (ks.map (·.1)).length= []:=by rw [dR,List.drop_length]
   rw [lC]at mem D;replace D:yA fs + 0 + 1=yA gs + b.size:=D;exact⟨yA fs,by show yA fs < yA gs + b.size;lia,fs,kvs,ss,_,!⟨B,r,I,hk,nd,e,λs=>by rw [mem s];simp,rfl,by lia⟩⟩
theorem zaB{n:Nat}(h:n<=9000000):n<=sizeLine:=by
 have:sizeLine=16777216:=w04
 lia
theorem z2K{n:Nat}(h:n<=9000000):n < sizeLine:=by
 have:sizeLine=16777216:=w04
 lia
noncomputable def kids:Qn->List Qn
 | .table _=> []
 | .pick _ q | .cols _ q | .first _ q | .group _ _ _ _ q | .sort _ q=> [q]
 | .pair q r | .join _ _ q r | .both q r=> [q,r]
noncomputable def post:Qn->List Qn
 | .table n=> [.table n]
 | .pick c q=>post q ++ [.pick c q]
 | .cols ns q=>post q ++ [.cols ns q]
 | .pair q r=>post q ++ post r ++ [.pair q r]
 | .join a b q r=>post q ++ post r ++ [.join a b q r]
 | .both q r=>post q ++ post r ++ [.both q r]
 | .first n q=>post q ++ [.first n q]
 | .group a b n s q=>post q ++ [.group a b n s q]
 | .sort a q=>post q ++ [.sort a q]
theorem kP(q:Qn):post q=(kids q).flatMap post ++ [q]:=by cases q <;> simp [post,kids]
theorem z3s(q:Qn):q∈post q:=by rw [kP];exact wG _ (wz.mpr rfl)
theorem zaJ{P:Qn->Prop}(hp:∀q,P q->∀k∈kids q,P k)(q:Qn)(h:P q):∀r∈post q,P r:=by
 induction q with
 | table n=>intro r m;rw [wz.mp m];exact h
 | pair q s i j | join _ _ q s i j | both q s i j=>
  intro r m;rcases wA.mp m with m | m
  ·exact(wA.mp m).elim (i (hp _ h _ (.head _)) r) (j (hp _ h _ (.tail _ (.head _))) r)
  ·rw [wz.mp m];exact h
 | pick _ q i | cols _ q i | first _ q i | group _ _ _ _ q i | sort _ q i=>
  intro r m;rcases wA.mp m with m | m
  ·exact i (hp _ h _ (.head _)) r m
  ·rw [wz.mp m];exact h
theorem zbr(q:Qn):1<=(post q).length:=by rw [kP,wg];simp
def yv(H:Hp):List Qn->List V->Prop
 | [],vs=>vs= []
 | q :: qs,vs=>∃v ws,vs=v :: ws/\QAt H q v/\yv H qs ws
theorem yv.same(e:zz H H'):∀{qs:List Qn} {vs:List V},yv H qs vs->yv H' qs vs
 | [],_,h=>h
 | _ :: _,_,⟨v,ws,a,h1,h2⟩=>⟨v,ws,a,h1.same e,h2.same e⟩
def yv.mono(t:∀b xs,H b=some (.tup xs)->H' b=some (.tup xs)):∀{qs:List Qn} {vs:List V},yv H qs vs->yv H' qs vs
 | [],_,h=>h
 | _ :: _,_,⟨v,ws,a,h1,h2⟩=>⟨v,ws,a,h1.mono t,h2.mono t⟩
theorem yv.len:∀{qs:List Qn} {vs:List V},yv H qs vs->vs.length=qs.length
 | [],_,h=>by rw [show _= []from h];rfl
 | _ :: qs,_,⟨v,ws,a,h1,h2⟩=>by rw [a,wP,wP,h2.len]
theorem yv.app:∀{qs rs:List Qn} {vs ws:List V},yv H qs vs->yv H rs ws->yv H (qs ++ rs) (vs ++ ws)
 | [],_,_,_,h,g=>by rw [show _= []from h];exact g
 | _ :: _,_,_,_,⟨v,us,a,h1,h2⟩,g=>⟨v,us ++ _,by rw [a];rfl,h1,h2.app g⟩
theorem yv.rev:∀{qs:List Qn} {vs:List V},yv H qs vs->yv H qs.reverse vs.reverse
 | [],_,h=>by rw [show _= []from h];rfl
 | q :: qs,_,⟨v,us,a,h1,h2⟩=>by
  rw [a,QT,QT];exact h2.rev.app ⟨v,[],rfl,h1,rfl⟩
theorem yv.at:∀{qs:List Qn} {vs:List V} {i:Nat} {q:Qn},yv H qs vs->qs[i]? =some q->∃v,vs[i]? =some v/\QAt H q v
 | q :: qs,_,0,_,⟨v,us,a,h1,h2⟩,e=>by cases e;exact⟨v,by rw [a];rfl,h1⟩
 | q :: qs,_,i + 1,_,⟨v,us,a,h1,h2⟩,e=>by
  obtain⟨u,b,z⟩:=h2.at (i:=i) (by simpa using e);exact⟨u,by rw [a];simpa using b,z⟩
theorem yv.at':∀{qs:List Qn} {vs:List V} {i:Nat} {v:V},yv H qs vs->vs[i]? =some v->∃q,qs[i]? =some q/\QAt H q v
 | [],_,i,v,h,e=>by rw [show _= []from h]at e;cases e
 | q :: qs,_,0,_,⟨v,us,a,h1,h2⟩,e=>by rw [a]at e;cases e;exact⟨q,rfl,h1⟩
 | q :: qs,_,i + 1,_,⟨v,us,a,h1,h2⟩,e=>by
  rw [a]at e;obtain⟨u,b,z⟩:=h2.at' (i:=i) (by simpa using e);exact⟨u,by simpa using b,z⟩
inductive spWithin (K:W.Frag) (vs:List V) (H:Hp) (Q:VK) (E:XK):Prop
 | mk:∀v q,vs= [v]->QAt H q v->(∀(l:Addr) (kv:List V) (H':Hp),zz H H'->H l=none->H' l=some (.lst kv)->yv H' (kids q) kv->Q (.ref l) H')->spWithin K vs H Q E
noncomputable def zf5:List V:= [.str "pair",.str "join",.str "both"]
theorem zd3{v:V}(h:QAt H q v):(∃n p,q= .table n/\v= .ref p/\H p=some (.tup [.str "table",.str n]))\/
  (∃r p w xs y,kids q= [r]/\v= .ref p/\H p=some (.tup (.str w :: (xs ++ [y])))/\QAt H r y/\inV (.str w) zf5=false/\w≠"table")\/
  (∃r s p w xs x y,kids q= [r,s]/\v= .ref p/\H p=some (.tup (.str w :: (xs ++ [x,y])))/\QAt H r x/\QAt H s y/\inV (.str w) zf5=true/\w≠"table"):=by
 cases q with
 | table n=>obtain⟨p,e,h⟩:=h;exact .inl ⟨n,p,rfl,e,h⟩
 | pick c r=>obtain⟨p,x,y,e,h,_,h2⟩:=h;exact .inr (.inl ⟨r,p,"pick",[x],y,rfl,e,h,h2,by decide +kernel,by decide +kernel⟩)
 | cols ns r=>obtain⟨p,x,y,e,h,_,h2⟩:=h;exact .inr (.inl ⟨r,p,"cols",[.ref x],y,rfl,e,h,h2,by decide +kernel,by decide +kernel⟩)
 | pair r s=>obtain⟨p,x,y,e,h,h1,h2⟩:=h;exact .inr (.inr ⟨r,s,p,"pair",[],x,y,rfl,e,h,h1,h2,by decide +kernel,by decide +kernel⟩)
 | join a b r s=>obtain⟨p,x,y,e,h,h1,h2⟩:=h;exact .inr (.inr ⟨r,s,p,"join",[.str a,.str b],x,y,rfl,e,h,h1,h2,by decide +kernel,by decide +kernel⟩)
 | both r s=>obtain⟨p,x,y,e,h,h1,h2⟩:=h;exact .inr (.inr ⟨r,s,p,"both",[],x,y,rfl,e,h,h1,h2,by decide +kernel,by decide +kernel⟩)
 | first n r=>obtain⟨p,y,e,h,h2⟩:=h;exact .inr (.inl ⟨r,p,"first",[.int n],y,rfl,e,h,h2,by decide +kernel,by decide +kernel⟩)
 | group a b n s r=>obtain⟨p,y,e,h,h2⟩:=h;exact .inr (.inl ⟨r,p,"group",[.str a,.str b,.str n,.str s],y,rfl,e,h,h2,by decide +kernel,by decide +kernel⟩)
 | sort a r=>obtain⟨p,y,e,h,h2⟩:=h;exact .inr (.inl ⟨r,p,"sort",[.str a],y,rfl,e,h,h2,by decide +kernel,by decide +kernel⟩)
def zak(v:V)(xs:List V)(y:V):atI (v :: (xs ++ [y])) (-1)=some y:=za0 (v :: xs) y
theorem zdU(v:V)(xs:List V)(x y:V):atI (v :: (xs ++ [x,y])) (-2)=some x:=by
 have e:v :: (xs ++ [x,y])=(v :: xs) ++ [x,y]:=rfl;rw [e];generalize v :: xs=l;unfold atI ixN;rw [wU (by decide),wY (by rw [wg];simp;lia)];have h1:((((l ++ [x,y]).length:Nat):Int) + (-2)).toNat=l.length:=by rw [wg];simp;lia
 simp only [Option.bind_some]
 first | rw [h1] | (rw [show((-2:Int) + (((l ++ [x,y]).length:Nat):Int)).toNat=l.length by rw [wg];simp;lia])
 simp
theorem z2u:FnScope ["question"] ["question"] (zm ku):=by walk_at "s"
theorem z2C(F:Fun K "straight_within" "straight_within" ku f fd)(T:Txt K mg)(R:TxtP K mg):FnOk P w K mg base CX0 1 f fd ["question"] (spWithin K):=by
 refine F.okB z2u (λvs H Q E h=> ?_) (λvs H Q E h=> ?_)
 ·obtain⟨v,q,rfl,_⟩:=h
  rfl
 obtain⟨v,q,rfl,hq,fin⟩:=h;obtain⟨b,d,c⟩:=R.two;intro ad A outer e hr;refine⟨_,(zc (zC (cmT zM (ixT v0 zd) zi)
   (zg (zt (zw zb)))
   zu)
  (zc (zC (yb yk (ixT v0 zd) (zbW (v:= .ref b) rfl d rfl) (by with_unfolding_all rfl))
   (zg (zt (zw (zj (ixT v0 (z0z yU zd)) (zj (ixT v0 (z0z yU zd)) zb)))))
   zu)
  (zg (zt (zw (zj (ixT v0 (z0z yU zd)) zb)))))),?_⟩
 generalize hK0:K=K1
 revert K1
 refine jq (by walk_at "cl") ?_;have l0:∀n:Nat,n<=10->n<=sizeLine:=λn h=>je (by lia)
 rcases zd3 hq with⟨n,p,rfl,rfl,hp⟩ | ⟨r,p,w,xs,y,hk,rfl,hp,hy,bx,hw⟩ | ⟨r,s,p,w,xs,x,y,hk,rfl,hp,hx,hy,bx,hw⟩
 ·refine !(zh hp zF ⟨rfl,!?_⟩);refine ifT (by rw [zV];decide +kernel) ?_;refine⟨l0 0 (by decide),λl hl=> ?_⟩;refine ze (upd _ l _) rfl hl λH1 a x1=> ?_
  exact fin l _ H1 a hl x1 rfl
 ·refine !(zh hp zF ⟨rfl,!?_⟩);refine ifF (by rw [zV];exact wL hw) ?_;refine !(zh hp zF ⟨b,!⟨.inr (c H),rfl,rfl,!?_⟩⟩);refine ifF bx ?_;refine !(!(zh hp (zak _ _ _) ⟨l0 1 (by decide),λl hl=> ?_⟩));refine ze (upd _ l _) rfl hl λH1 a x1=> ?_
  exact fin l _ H1 a hl x1 (by rw [hk];exact⟨y,[],rfl,hy.same a,rfl⟩)
 ·refine !(zh hp zF ⟨rfl,!?_⟩);refine ifF (by rw [zV];exact wL hw) ?_;refine !(zh hp zF ⟨b,!⟨.inr (c H),rfl,rfl,!?_⟩⟩);refine ifT bx ?_;refine !(!(zh hp (zdU _ _ _ _) (!(!(zh hp (by have:=zak (.str w) (xs ++ [x]) y;rwa [Qv]at this) ⟨l0 2 (by decide),λl hl=> ?_⟩)))));refine ze (upd _ l _) rfl hl λH1 a x1=> ?_
  exact fin l _ H1 a hl x1 (by rw [hk];exact⟨x,[y],rfl,hx.same a,y,[],rfl,hy.same a,rfl⟩)
theorem z2N{l:Addr}(h:H l=some (.lst xs)):∀b ys,H b=some (.tup ys)->upd H l o b=some (.tup ys):=λb ys e=>by
 rw [zn (z5G e h (by intro z;cases z))];exact e
noncomputable abbrev pre(r:Qn):List Qn:=(post r).reverse
theorem zbm(r:Qn):pre r=r :: (kids r).reverse.flatMap pre:=by
 unfold pre;rw [kP,List.reverse_append,List.reverse_flatMap]
 rfl
noncomputable def wtL(ws:List Qn):Nat:=(ws.map λr=>(post r).length).sum
theorem z8G(a b:List Qn):wtL (a ++ b)=wtL a + wtL b:=by unfold wtL;rw [wK,List.sum_append]
theorem z5Y:∀ws:List Qn,ws.length<=wtL ws
 | []=>wu _
 | q :: ws=>by
  have:=z5Y ws;have:=zbr q
  show ws.length + 1<=(post q).length + wtL ws
  lia
theorem z89:∀ws:List Qn,(ws.reverse.flatMap pre).length=wtL ws
 | []=>rfl
 | q :: ws=>by
  rw [QT,w0O,wg,z89 ws]
  show wtL ws + (pre q ++ []).length=(post q).length + wtL ws
  rw [Q3,w0n,Nat.add_comm]
theorem zab(r:Qn):(post r).length=wtL (kids r) + 1:=by
 rw [kP,wg,List.length_flatMap]
 rfl
theorem yv.snoc:∀{qs:List Qn} {vs:List V},yv H qs vs->vs≠ []->∃gs g ws v,qs=gs ++ [g]/\vs=ws ++ [v]/\yv H gs ws/\QAt H g v
 | [],_,h,n=>absurd h n
 | [q],_,⟨v,us,a,h1,h2⟩,_=>⟨[],q,[],v,rfl,by rw [a,show us= []from h2];rfl,rfl,h1⟩
 | q :: r :: qs,_,⟨v,us,a,h1,h2⟩,_=>by
  obtain⟨gs,g,ws,v',e,c,d,b⟩:=h2.snoc (by intro z;have:=h2.len;rw [z]at this;cases this);exact⟨q :: gs,g,v :: ws,v',by rw [e];rfl,by rw [a,c];rfl,⟨v,ws,rfl,h1,d⟩,b⟩
inductive spInner (K:W.Frag) (vs:List V) (H:Hp) (Q:VK) (E:XK):Prop
 | mk:∀v q,vs= [v]->QAt H q v->(post q).length<=8000000->(∀(l:Addr) (kv:List V) (H':Hp),zz H H'->H l=none->H' l=some (.lst kv)->yv H' (post q) kv->Q (.ref l) H')->spInner K vs H Q E
theorem kr:FnScope ["question","places","waiting","place"] ["question"] (zm z0X):=by walk_at "s"
theorem z47(F:Fun K "inner_first" "inner_first" z0X f fd)(T:Txt K mg)(a:Kn P w K mg base 1 "straight_within" ["question"] (spWithin K)):FnOk P w K mg base CX0 2 f fd ["question"] (spInner K):=by
 refine F.okB kr (λvs H Q E h=> ?_) (λvs H Q E h=> ?_)
 ·obtain⟨v,q,rfl,_⟩:=h
  rfl
 obtain⟨v,q,rfl,hq,hsz,fin⟩:=h;intro ad A outer sh hr;refine⟨_,(zc (seT 1 kr (zw zb))
  (zc (seT 2 kr (zw (zf v0 zb)))
  (zc (z7d (z2X v2 (λ_=>rfl))
   (zc (seT 3 kr (z3d qB QZ w00 z3p v2))
   (zc (jh (apP v1 (zf v3 zb)))
   (zg (jh (z1z qB PySem.F.slot_list_extend PySem.F.type_list_extend z9O v2 (zX (zW a hr.m (zf v3 zb)) zb)))))))
  (zg (zt (z7U rfl rfl T.list rfl T.reversed v1)))))),?_⟩
 generalize hK0:K=K1
 revert K1
 refine jq (by walk_at "cl") ?_;refine⟨(zq rfl),λb j=> ?_⟩;refine ze (upd _ b _) rfl j λH1 N x1=> ?_
 refine !⟨(zq rfl),λc D=> ?_⟩;have G:b≠c:=zy x1 D;have iL:H c=none:=N.free D;refine ze (upd _ c _) rfl D λH2 Z x2=> ?_
 have s2:=N.trans Z;refine z2Q ?_;dsimp only;refine z45 ?_;refine z0N (λm σ H'=>∃(ps ws:List Qn) (pv r:List V) (o3:Option V),m=wtL ws/\σ= [some v,some (.ref b),some (.ref c),o3]/\zz H H'/\H' b=some (.lst pv)/\H' c=some (.lst r)/\yv H' ps pv/\yv H' ws r/\ps ++ ws.reverse.flatMap pre=pre q) (wtL [q])
  ⟨[],[q],[],[v],none,rfl,rfl,s2,Z _ _ x1,x2,rfl,⟨v,[],rfl,hq.same s2,rfl⟩,by simp⟩ ?_
 rintro m σ n ⟨ps,ws,pv,r,o3,rfl,rfl,L,S,p,U,qw,x⟩;have hlen:ps.length + wtL ws=(post q).length:=by
  have:=Qj List.length x;rw [wg,z89,w0n]at this;exact this
 refine !⟨_,.inl ⟨_,SqL.of p,rfl⟩,?_⟩;by_cases ao:r= []
 ·subst ao;refine ifF (by rfl) ?_;have t:ws= []:=QJ.mp qw.len.symm;subst t;have ep:ps=pre q:=by simpa using x
  refine !⟨b,!⟨SqL.of S,λl hl=> ?_⟩⟩;refine ze (upd _ l _) rfl hl λe n4 x4=> ?_
  refine fin l _ e (L.trans n4) (L.free hl) x4 ?_;have:=(U.same n4).rev;rw [ep,List.reverse_reverse]at this;exact this
 ·obtain⟨gs,g,us,d,rfl,rfl,qg,hg⟩:=qw.snoc ao;refine ifT (by simp) ?_;refine⟨_,λσ' H' z=>z,?_⟩;refine !⟨.inl ⟨rfl,_,SqL.of p⟩,c,_,d,rfl,rfl,p,z2c _ _,?_⟩;rw [w08];have y:=z2N (o:= .lst us) p;have O:zz H (upd n c (.lst us)):=L.put iL;have s:upd n c (.lst us) b=some (.lst pv):=(zn G).trans S;have X:upd n c (.lst us) c=some (.lst us):=zl;have I:=U.mono y;have J:=qg.mono y;have C:=hg.mono y;generalize upd n c (.lst us)=e at y O s X I J C ⊢;have t:wtL (gs ++ [g])=wtL gs + (post g).length:=by rw [z8G];rfl
  rw [t]at hlen;have lp:=I.len;have lg:=J.len;have lw:=z5Y gs;have lk:=z5Y (kids g);have xS:=zab g;refine !⟨.inl ⟨rfl,_,SqL.of s⟩,!⟨b,ex2 rfl rfl ⟨s,z2K (by lia),?_⟩⟩⟩;have u:=z2N (o:= .lst (pv ++ [d])) s;have M:zz H (upd e b (.lst (pv ++ [d]))):=O.put j;have tY:upd e b (.lst (pv ++ [d])) b=some (.lst (pv ++ [d])):=zl;have B:upd e b (.lst (pv ++ [d])) c=some (.lst us):=(zn G.symm).trans X;have tZ:yv (upd e b (.lst (pv ++ [d]))) (ps ++ [g]) (pv ++ [d]):=(I.mono u).app ⟨d,[],rfl,C.mono u,rfl⟩;have u4:=J.mono u;have Y:=C.mono u;generalize upd e b (.lst (pv ++ [d]))=H5 at M tY B tZ u4 Y ⊢;refine !⟨.inl ⟨rfl,_,SqL.of B⟩,!⟨_,g,rfl,Y,λl kv H6 i fl x6 R=> ?_⟩⟩;have u6:=i _ _ B;have u7:=R.len;refine⟨c,l,ex2 rfl rfl ⟨u6,x6,zaB (by lia),?_⟩⟩;have u8:=z2N (o:= .lst (us ++ kv)) u6;refine⟨wtL (gs ++ kids g),by rw [t,z8G];lia,ps ++ [g],gs ++ kids g,pv ++ [d],us ++ kv,!⟨rfl,(M.trans i).put iL,by rw [zn G];exact i _ _ tY,zl,(tZ.same i).mono u8,((u4.same i).app R).mono u8,?_⟩⟩;rw [List.reverse_append]at x;rw [List.reverse_append,w0O,<-x]
  show ps ++ [g] ++ _=ps ++ ([g] ++ gs.reverse).flatMap pre
  rw [w0O,w0h,zbm g];simp
def Nt(H H':Hp):Prop:=∀b o,H b=some o->(∀ps,o≠ .tbl ps)->H' b=some o
def Nt.refl(H:Hp):Nt H H:=λ_ _ e _=>e
theorem Nt.trans(a:Nt H H1)(b:Nt H1 H2):Nt H H2:=λx o e n=>b x o (a x o e n) n
def Nt.of(h:zz H H'):Nt H H':=λb o e _=>h b o e
theorem Nt.lst{H H':Hp}{b:Addr}{xs:List V}(h:Nt H H')(e:H b=some (.lst xs)):H' b=some (.lst xs):=h b _ e λ_ z=>by cases z
theorem Nt.tup{H H':Hp}{b:Addr}{xs:List V}(h:Nt H H')(e:H b=some (.tup xs)):H' b=some (.tup xs):=h b _ e λ_ z=>by cases z
theorem z5R{a b:HO}:upd (upd H d a) d b=upd H d b:=by
 funext x
 by_cases e:x=d
 ·subst e;rw [zl,zl]
 ·rw [zn e,zn e,zn e]
theorem z6o{c:Addr}{a b:HO}(n:c≠d):upd (upd H d a) c b=upd (upd H c b) d a:=by
 funext x
 by_cases e:x=d
 ·subst e;rw [zn n.symm,zl,zl]
 ·rw [zn (H:=upd H c b) e];by_cases e2:x=c
  ·subst e2;rw [zl,zl]
  ·rw [zn e2,zn e2,zn e]
theorem zan(h:H d=some o):upd H d o=H:=by
 funext x
 by_cases e:x=d
 ·subst e;rw [zl,h]
 ·rw [zn e]
theorem z79(h:zz H H2)(hd:H d=none):zz H (hid H2 d):=λb o e=>by
 rw [jt (λz=>by rw [z,hd]at e;cases e)];exact h b o e
theorem z90(h:H d=some o):upd (hid H d) d o=H:=by
 funext x
 by_cases e:x=d
 ·subst e;rw [zl,h]
 ·rw [zn e,jt e]
def z1i(Res:Qn->V->Hp->Prop)(H:Hp):List Qn->List V->Prop
 | [],vs=>vs= []
 | q :: qs,vs=>∃v ws,vs=v :: ws/\Res q v H/\z1i Res H qs ws
section
variable{Res:Qn->V->Hp->Prop}
def z1i.imp(h:∀r u,Res r u H->Res r u H'):∀{qs:List Qn} {vs:List V},z1i Res H qs vs->z1i Res H' qs vs
 | [],_,z=>z
 | _ :: _,_,⟨v,ws,a,h1,h2⟩=>⟨v,ws,a,h _ _ h1,h2.imp h⟩
theorem z1i.len:∀{qs:List Qn} {vs:List V},z1i Res H qs vs->vs.length=qs.length
 | [],_,h=>by rw [show _= []from h];rfl
 | _ :: qs,_,⟨v,ws,a,h1,h2⟩=>by rw [a,wP,wP,h2.len]
theorem z1i.app:∀{qs rs:List Qn} {vs ws:List V},z1i Res H qs vs->z1i Res H rs ws->z1i Res H (qs ++ rs) (vs ++ ws)
 | [],_,_,_,h,g=>by rw [show _= []from h];exact g
 | _ :: _,_,_,_,⟨v,us,a,h1,h2⟩,g=>⟨v,us ++ _,by rw [a];rfl,h1,h2.app g⟩
theorem z1i.cut:∀{qs rs:List Qn} {vs ws:List V},z1i Res H (qs ++ rs) (vs ++ ws)->vs.length=qs.length->z1i Res H qs vs/\z1i Res H rs ws
 | [],_,vs,_,h,e=>by
  have:vs= []:=QJ.mp e;subst this;exact⟨rfl,h⟩
 | _ :: _,_,[],_,_,e=>by cases e
 | q :: qs,rs,v :: vs,ws,⟨u,us,c,h1,h2⟩,e=>by
  obtain⟨rfl,rfl⟩:=List.cons.inj c;obtain⟨a,b⟩:=h2.cut (by simpa using e);exact⟨⟨v,vs,rfl,h1,a⟩,b⟩
end
inductive Runs:List Qn->List Qn->List Qn->Prop
 | nil (S:List Qn):Runs S [] S
 | cons {S:List Qn} {r:Qn} {l S':List Qn}:Runs (S ++ [r]) l S'->Runs (S ++ kids r) (r :: l) S'
variable{l:List Qn}
theorem Runs.app{c b a d:List Qn}(h:Runs c l b)(g:Runs b a d):Runs c (l ++ a) d:=by
 induction h with
 | nil S=>exact g
 | cons h e=>exact .cons (e g)
theorem jX:∀(q:Qn) (S:List Qn),Runs S (post q) (S ++ [q])
 | .table n,S=>by have:=Runs.cons (S:=S) (r:= .table n) (.nil (S ++ [.table n]));simpa [kids,post]using this
 | .pick c q,S=>(jX q S).app (.cons (r:= .pick c q) (.nil _))
 | .cols ns q,S=>(jX q S).app (.cons (r:= .cols ns q) (.nil _))
 | .pair q r,S=>((jX q S).app (jX r _)).app (by rw [Qv];exact .cons (r:= .pair q r) (.nil _))
 | .join a b q r,S=>((jX q S).app (jX r _)).app (by rw [Qv];exact .cons (r:= .join a b q r) (.nil _))
 | .both q r,S=>((jX q S).app (jX r _)).app (by rw [Qv];exact .cons (r:= .both q r) (.nil _))
 | .first n q,S=>(jX q S).app (.cons (r:= .first n q) (.nil _))
 | .group a b n s q,S=>(jX q S).app (.cons (r:= .group a b n s q) (.nil _))
 | .sort a q,S=>(jX q S).app (.cons (r:= .sort a q) (.nil _))
theorem Runs.inv{S S':List Qn}(h:Runs S (r :: l) S'):∃a,S=a ++ kids r/\Runs (a ++ [r]) l S':=by
 cases h with
 | cons h=>exact !h
def z87(P:Program)(w:World)(K:W.Frag)(mg:Str->Option Value)(base:Heap)(k:Nat):SpS:=λouter s vs H Q E=>∃(v:V) (q:Qn) (lf:Addr) (a:Sp) (Ok:Hp->Prop) (Res:Qn->V->Hp->Prop),
 vs= [v,.ref lf]/\QAt H q v/\(post q).length<=8000000/\WorkOk P w K mg base CX0 k (frs outer) H s lf a/\Ok H/\(∀H1 H2,zz H1 H2->Ok H1->Ok H2)/\(∀r u H1 H2,Nt H1 H2->Res r u H1->Res r u H2)/\
 (∀r∈post q,∀(c:V) (wl:Addr) (ws:List V) (H1:Hp) (b:VK),Nt H H1->Ok H1->QAt H1 r c->H1 wl=some (.lst ws)->z1i Res H1 (kids r) ws->(∀v' H2,Nt H1 H2->Ok H2->Res r v' H2->b v' H2)->a [c,.ref wl] H1 b E0)/\
 ∀v' H',Nt H H'->Ok H'->Res q v' H'->Q v' H'
theorem z0b:FnScope ["question","work","done","place","within","inner"] ["question","work"] (zm z2z):=by walk_at "s"
theorem z7e{k:Nat}(dg:2<=k)(F:Fun K "built_up" "built_up" z2z f fd)(T:Txt K mg)(c:Kn P w K mg base 2 "inner_first" ["question"] (spInner K))(a:Kn P w K mg base 1 "straight_within" ["question"] (spWithin K)):FnOkS P w K mg base CX0 (k + 1) f fd ["question","work"] (z87 P w K mg base k):=by
 refine F.okS0 z0b (λouter s vs H Q E h=> ?_) (λad A outer s H vs Q E hr h=> ?_)
 ·obtain⟨v,q,lf,mR,Ok,Res,rfl,_⟩:=h
  rfl
 obtain⟨v,q,lf,mR,Ok,Res,rfl,hq,hsz,W,lD,okS,Z,work,fin⟩:=h;refine⟨_,(zc (seT 2 z0b (zw zb))
  (zc (foR (jb (zW c hr.m (zf v0 zb))) (gnM 3 z0b)
   (zc (seT 4 z0b (zw zb))
   (zc (foR (jb (zW a hr.m (zf v3 zb))) (gnM 5 z0b)
    (zg (jh (z1z qB PySem.F.slot_list_insert PySem.F.type_list_insert z9K v4 (zo zd (zX (z3d qB QZ w00 z3p v2) zb))))))
   (zg (jh (apP v2 (zX (z9H (i:=1) W z3B rfl hr rfl (w02 rfl) (zf (pv 3) (zf (pv 4) zb))) zb)))))))
  (zg (zt (ixL v2 zd))))),?_⟩
 generalize hK0:K=K1
 revert K1
 refine jq (by walk_at "cl") ?_;refine⟨(zq rfl),λdn lC=> ?_⟩;refine !⟨v,q,rfl,hq.mono λb xs e=>by rw [zn (zy e lC)];exact e,hsz,λl kv H2 n2 fl x2 y=> ?_⟩;have s1:zz H (upd H dn (.lst [])):=zJ lC _;have d2:H2 dn=some (.lst []):=n2 _ _ zl;have u9:l≠dn:=λz=>by rw [z,zl]at fl;cases fl
 have g2:zz H (hid H2 dn):=z79 (s1.trans n2) lC;have aD:hid H2 dn l=some (.lst kv):=(jt u9).trans x2;have xT:∀b xs,H2 b=some (.tup xs)->hid H2 dn b=some (.tup xs):=λb xs e=>by rw [jt (z5G e d2 (by intro z;cases z))];exact e
 have u7:=y.len;refine⟨l,rfl,⟨_,SqL.of x2⟩,z0B (xs:=kv) (λi σ H'=>∃(G:Hp) (S:List Qn) (ds:List V) (o3 R n:Option V),σ= [some v,some (.ref lf),some (.ref dn),o3,R,n]/\H'=upd G dn (.lst ds)/\G dn=none/\Nt H G/\Ok G/\G l=some (.lst kv)/\yv G (post q) kv/\z1i Res G S ds/\Runs S ((post q).drop i) [q]/\S.length<=i)
  ⟨hid H2 dn,[],[],none,none,none,rfl,(z90 d2).symm,yE,Nt.of g2,okS _ _ g2 lD,aD,y.mono xT,rfl,by have:=jX q [];simpa using this,wu _⟩ ?_ ?_ ?_⟩
 ·rintro i σ H' _ ⟨G,S,ds,o3,R,n,rfl,rfl,U,nt,O,gl,_⟩;exact SqL.of (by rw [zn u9];exact gl)
 ·rintro i L σ H' hi ⟨G,S,ds,o3,R,n,rfl,rfl,U,nt,O,gl,pN,rs,run,hS⟩;obtain⟨r,ck,mT⟩:=pN.at' hi;have gb:i < (post q).length:=(wk.mp ck).1;have az:(post q)[i]=r:=(wk.mp ck).2;rw [List.drop_eq_getElem_cons gb,az]at run;obtain⟨Y,rfl,run'⟩:=run.inv;have aO:r∈post q:=qA ck;refine⟨(zq rfl),λwl N=> ?_⟩;have t:wl≠dn:=λz=>by rw [z,zl]at N;cases N
  have gw:G wl=none:=by rw [zn t]at N;exact N
  rw [z6o t];have X:zz G (upd G wl (.lst [])):=zJ gw _;have w1:upd G wl (.lst []) wl=some (.lst []):=zl;have d1:upd G wl (.lst []) dn=none:=by rw [zn t.symm];exact U
  generalize upd G wl (.lst [])=G1 at X w1 d1 ⊢;have pO:QAt (upd G1 dn (.lst ds)) r L:=(mT.same X).mono λb xs e=>by rw [zn (zy e d1)];exact e
  refine !⟨L,r,rfl,pO,λsl kk x n4 p x4 qk=> ?_⟩;have d4:x dn=some (.lst ds):=n4 _ _ zl;have pP:sl≠dn:=λz=>by rw [z,zl]at p;cases p
  have e4:upd (hid x dn) dn (.lst ds)=x:=z90 d4;have M:zz G1 (hid x dn):=z79 ((zJ d1 _).trans n4) d1;have pQ:hid x dn sl=some (.lst kk):=(jt pP).trans x4;have ua:hid x dn dn=none:=yE;rw [<-e4];generalize hid x dn=G4 at M pQ ua ⊢;have w4:=M _ _ w1;have xU:sl≠wl:=λz=>by
   have:=M _ _ w1;rw [z,zn t,w1]at p;cases p
  have xS:=qk.len;have iS:=rs.len;rw [wg]at iS hS;have hlen:ds.length=Y.length + (kids r).length:=iS;refine⟨sl,rfl,⟨_,SqL.of (by rw [zn pP];exact pQ)⟩,z0B (xs:=kk) (λj σ H'=>∃(d ws:List V) (n:Option V),σ= [some v,some (.ref lf),some (.ref dn),some L,some (.ref wl),n]/\H'=upd (upd G4 wl (.lst ws)) dn (.lst d)/\ds=d ++ ws/\ws.length=j)
   ⟨ds,[],n,rfl,by rw [zan w4],by simp,rfl⟩ ?_ ?_ ?_⟩
  ·rintro j σ H' _ ⟨d,ws,n,rfl,rfl,_⟩;exact SqL.of (by rw [zn pP,zn xU];exact pQ)
  ·rintro j kx σ H' hj ⟨d,ws,n,rfl,rfl,D,pR⟩;have DR:j < kk.length:=(wk.mp hj).1;have ao:d≠ []:=λz=>by
    have:=Qj List.length D;rw [z,List.nil_append,hlen,pR]at this
    lia
   obtain⟨gs,g,rfl⟩:=z42 ao;have B:upd (upd G4 wl (.lst ws)) dn (.lst (gs ++ [g])) dn=some (.lst (gs ++ [g])):=zl;have xV:upd (upd G4 wl (.lst ws)) dn (.lst (gs ++ [g])) wl=some (.lst ws):=by rw [zn t,zl]
   refine !⟨.inl ⟨rfl,_,SqL.of xV⟩,!⟨.inl ⟨rfl,_,SqL.of B⟩,dn,_,g,rfl,rfl,B,z2c _ _,?_⟩⟩;rw [w08,z5R];have pT:upd (upd G4 wl (.lst ws)) dn (.lst gs) wl=some (.lst ws):=by rw [zn t,zl]
   refine⟨wl,ws,g,rfl,rfl,pT,z2K (by lia),?_⟩;refine⟨gs,g :: ws,!⟨?_,by rw [D,Qv];rfl,by rw [wP,pR]⟩⟩;rw [z6o t,z5R]
  ·rintro σ H' ⟨d,ws,n,rfl,rfl,D,pR⟩;rw [D]at rs;have eB:d.length=Y.length:=by
    have:=Qj List.length D;rw [wg]at this
    lia
   obtain⟨bw,bP⟩:=rs.cut eB;have pU:zz G (upd G4 wl (.lst ws)):=λb o e=>by
    rw [zn (zy e gw)];exact M _ _ (X _ _ e)
   have I:=Nt.of pU;have d5:upd G4 wl (.lst ws) dn=none:=by rw [zn t.symm];exact ua
   have w5:upd G4 wl (.lst ws) wl=some (.lst ws):=zl;have ub:=okS _ _ pU O;generalize upd G4 wl (.lst ws)=G5 at pU I d5 w5 ub ⊢;have B:upd G5 dn (.lst d) dn=some (.lst d):=zl;refine !⟨.inl ⟨rfl,_,SqL.of B⟩,rfl,!(!⟨dn,d,B,?_⟩)⟩;rw [k5 d5];refine work r aO L wl ws G5 _ (nt.trans I) ub (mT.mono λb xs e=>I.tup e) w5 (bP.imp λr u z=>Z r u _ _ I z) λv' H6 n6 ac C d6=> ?_
   refine⟨dn,d,v',rfl,rfl,zl,z2K (by lia),?_⟩;rw [z5R];have J:=I.trans n6;exact⟨H6,Y ++ [r],d ++ [v'],_,_,!⟨rfl,d6,nt.trans J,ac,J.lst gl,pN.mono λb xs e=>J.tup e,(bw.imp λr u z=>Z r u _ _ J z).app ⟨v',[],rfl,C,rfl⟩,run',by rw [wg,wJ];lia⟩⟩
 ·rintro σ H' ⟨G,S,ds,o3,R,n,rfl,rfl,U,nt,O,gl,pN,rs,run,hS⟩;rw [u7,List.drop_length]at run;cases run;obtain⟨v',ws,rfl,res,e⟩:=rs;have e':ws= []:=e;subst e';have sd:zz G (upd G dn (.lst [v'])):=zJ U _;exact !(zx zl zF (fin v' _ (nt.trans (Nt.of sd)) (okS _ _ sd O) (Z _ _ _ _ (Nt.of sd) res)))
def wfQ(th:Str->List Str):Qn->Prop
 | .table n=>n∈tabs
 | .pick c q=>c.ok (za th q)/\c.size<=20/\wfQ th q
 | .cols ns q=>ns.Nodup/\(∀n∈ns,n∈za th q)/\wfQ th q
 | .pair q r=>(∀n∈za th q,n∉za th r)/\(za th q ++ za th r).length<=100/\wfQ th q/\wfQ th r
 | .join a b q r=>a∈za th q/\b∈za th r/\(∀n∈za th q,n∉za th r)/\(za th q ++ za th r).length<=100/\wfQ th q/\wfQ th r
 | .both q r=>za th q=za th r/\wfQ th q/\wfQ th r
 | .first n q=>0<=n/\wfQ th q
 | .group a b n s q=>a∈za th q/\b∈za th q/\ [a,n,s].Nodup/\wfQ th q
 | .sort a q=>a∈za th q/\wfQ th q
def zdF(nd:ns.Nodup)(h:∀n∈ns,n∈hs):ns.length<=hs.length:=yZ nd h
theorem jL{th:Str->List Str}{tr:Str->List (List Int)}(T:TabOk th tr):∀{q:Qn},wfQ th q->(za th q).Nodup/\(za th q).length<=100
 | .table n,h=>⟨(T.hd n h).2,by
  obtain⟨m,f,d,e⟩:=T.t;have ht:(th "t").length<=100:=by rw [e,wX];lia
  have hn:n∈tabs:=h;simp only [tabs,wH,qz,QD]at hn
  show(th n).length<=100
  rcases hn with rfl | rfl | rfl
  ·exact ht
  ·rw [T.w];decide +kernel
  ·rw [T.x];decide +kernel⟩
 | .pick _ q,h=>jL T (q:=q) h.2.2
 | .cols ns q,h=>⟨h.1,wW (zdF h.1 h.2.1) (jL T (q:=q) h.2.2).2⟩
 | .pair q r,h=>⟨QS.mpr ⟨(jL T (q:=q) h.2.2.1).1,(jL T (q:=r) h.2.2.2).1,λa ha b c e=>h.1 a ha (e ▸ c)⟩,h.2.1⟩
 | .join a b q r,h=>⟨QS.mpr ⟨(jL T (q:=q) h.2.2.2.2.1).1,(jL T (q:=r) h.2.2.2.2.2).1,λa ha b c e=>h.2.2.1 a ha (e ▸ c)⟩,h.2.2.2.1⟩
 | .both q r,h=>jL T (q:=q) h.2.1
 | .first _ q,h=>jL T (q:=q) h.2
 | .group a b n s q,h=>⟨h.2.2.1,by show 3<=100;decide⟩
 | .sort _ q,h=>jL T (q:=q) h.2
def zf0(th:Str->List Str)(r:Qn)(v:V)(H:Hp):Prop:=∃hp,v= .ref hp/\H hp=some (.lst ((za th r).map V.str))
inductive spHOT (K:W.Frag) (vs:List V) (H:Hp) (Q:VK) (E:XK):Prop
 | mk:∀th tr tp n,vs= [.ref tp,.str n]->jz th tr H tp->n∈tabs->(th n).length<=1000->(∀(hp:Addr) (H':Hp),zz H H'->H' hp=some (.lst ((th n).map V.str))->Q (.ref hp) H')->spHOT K vs H Q E
theorem z2P(h:jz th tr H p):∃vs:List V,H p=some (.lst vs)/\vs.length=3/\∀i,i < 3->∃v,vs[i]? =some v/\TabAt th tr H v (tabs.getD i ""):=by
 obtain⟨v0,v1,v2,h0,a,b,c⟩:=h;refine⟨_,h0,rfl,λi hi=> ?_⟩
 match i,hi with
 | 0,_=>exact⟨v0,rfl,a⟩
 | 1,_=>exact⟨v1,rfl,b⟩
 | 2,_=>exact⟨v2,rfl,c⟩
theorem z8z(h:n∈tabs):∃j,j < 3/\tabs.getD j ""=n:=by
 have hn:=h;simp only [tabs,wH,qz,QD]at hn;rcases hn with rfl | rfl | rfl
 ·exact⟨0,by decide,rfl⟩
 ·exact⟨1,by decide,rfl⟩
 ·exact⟨2,by decide,rfl⟩
theorem z0L:FnScope ["tables","name","table"] ["tables","name"] (zm kQ):=by walk_at "s"
theorem z31(F:Fun K "heads_of_table" "heads_of_table" kQ f fd)(T:Txt K mg):FnOk P w K mg base CX0 1 f fd ["tables","name"] (spHOT K):=by
 refine F.okB z0L (λvs H Q E h=> ?_) (λvs H Q E h=> ?_)
 ·obtain⟨th,tr,tp,n,rfl,_⟩:=h
  rfl
 obtain⟨th,tr,tp,n,rfl,s,hn,B,fin⟩:=h;obtain⟨vs,c,r,q⟩:=z2P s;obtain⟨j,C,t⟩:=z8z hn;intro ad A outer D hr;refine⟨_,(zc (foR (jb v0) (gnM 2 z0L)
   (zg (zC (cmT zM (ixT v2 zd) v1)
    (zg (zt (jg yo rfl T.list qR (zj (ixT v2 zd) zb))))
    zu)))
  (zg z2E)),?_⟩
 generalize hK0:K=K1
 revert K1
 refine jq (by walk_at "cl") ?_;refine !⟨tp,rfl,⟨_,SqL.of c⟩,z0B (xs:=vs) (λi σ H'=>∃o2,σ= [some (.ref tp),some (.str n),o2]/\H'=H/\i<=j) ⟨none,rfl,rfl,Q6 _⟩ ?_ ?_ ?_⟩
 ·rintro i σ H' _ ⟨o2,rfl,rfl,_⟩;exact SqL.of c
 ·rintro i x σ H' hi ⟨o2,rfl,rfl,y⟩;have u:i < 3:=by rw [<-r];exact(wk.mp hi).1
  obtain⟨v,a,p,hp,rp,rs,rfl,b,d,G,I⟩:=q i u;rw [hi]at a;cases a;refine !(zh b zF (!⟨rfl,!?_⟩));by_cases e:tabs.getD i ""=n
  ·refine ifT (by rw [zV];exact wS e) ?_;rw [e]at d;refine !(zh b j6 ⟨hp,!⟨.inl (SqL.of d),λl hl=> ?_⟩⟩);refine ze (upd _ l _) rfl hl λH1 o x1=> ?_
   exact fin l H1 o x1
  ·refine ifF (by rw [zV];exact wL e) ?_;refine !⟨rfl,?_⟩;have:i≠j:=λz=>e (by rw [z];exact t)
   lia
 ·rintro σ H' ⟨o2,rfl,rfl,y⟩
  lia
inductive spCheck (K:W.Frag) (vs:List V) (H:Hp) (Q:VK) (E:XK):Prop
 | mk:∀np hp (ns:List Str) (hs:List Str),vs= [.ref np,.ref hp]->(SqL K H np (ns.map V.str)\/SqT K H np (ns.map V.str))->SqL K H hp (hs.map V.str)->(∀n∈ns,n∈hs)->Q .non H->spCheck K vs H Q E
theorem z5Q(h:n∈hs):inV (.str n) (hs.map V.str)=true:=by
 unfold inV;exact w1b.mpr ⟨.str n,qI.mpr ⟨n,h,rfl⟩,by simp [eqV]⟩
theorem jo(hs:List Str):(hs.map V.str).all yY=true:=qQ.mpr λx a=>by
 obtain⟨s,_,rfl⟩:=qI.mp a
 rfl
theorem z7v{x:V}(h:(ns.map V.str)[i]? =some x):∃n∈ns,x= .str n:=by
 obtain⟨n,hn,e⟩:=qI.mp (qA h);exact⟨n,hn,e.symm⟩
theorem z1d:FnScope ["names","heads","name"] ["names","heads"] (zm z0h):=by walk_at "s"
theorem z3r(F:Fun K "check_columns" "check_columns" z0h f fd)(T:Txt K mg):FnOk P w K mg base CX0 1 f fd ["names","heads"] (spCheck K):=by
 refine F.okB z1d (λvs H Q E h=> ?_) (λvs H Q E h=> ?_)
 ·obtain⟨np,hp,ns,hs,rfl,_⟩:=h
  rfl
 obtain⟨np,hp,ns,hs,rfl,aA,a,sub,q⟩:=h;intro ad A outer b hr;refine⟨_,(zg (foR (zeN (jb v0) (z3q v0)) (gnM 2 z1d)
   (zg (zC (yb yr v2 v1 (by with_unfolding_all rfl))
    (zg z2E)
    zu)))),?_⟩
 generalize hK0:K=K1
 revert K1
 refine jq (by walk_at "cl") ?_;rcases aA with aA | aA
 ·refine .inl (!⟨np,rfl,⟨_,aA⟩,z0B (xs:=ns.map V.str) (λi σ H'=>∃o2,σ= [some (.ref np),some (.ref hp),o2]/\H'=H) ⟨none,rfl,rfl⟩ ?_ ?_ ?_⟩)
  ·rintro i σ H' _ ⟨o2,rfl,rfl⟩;exact aA
  ·rintro i x σ H' hi ⟨o2,rfl,rfl⟩;obtain⟨n,hn,rfl⟩:=z7v hi;refine !(!⟨hp,!⟨.inl a,rfl,jo hs,!?_⟩⟩);exact ifF (by show(not (inV _ _))=false;rw [z5Q (sub n hn)];rfl) (!rfl)
  ·rintro σ H' ⟨o2,rfl,rfl⟩;exact q
 ·refine .inr (!⟨np,rfl,⟨_,aA⟩,z61 (xs:=ns.map V.str) (λi σ H'=>∃o2,σ= [some (.ref np),some (.ref hp),o2]/\H'=H) ⟨none,rfl,rfl⟩ ?_ ?_ ?_⟩)
  ·rintro i σ H' _ ⟨o2,rfl,rfl⟩;exact aA
  ·rintro i x σ H' hi ⟨o2,rfl,rfl⟩;obtain⟨n,hn,rfl⟩:=z7v hi;refine !(!⟨hp,!⟨.inl a,rfl,jo hs,!?_⟩⟩);exact ifF (by show(not (inV _ _))=false;rw [z5Q (sub n hn)];rfl) (!rfl)
  ·rintro σ H' ⟨o2,rfl,rfl⟩;exact q
inductive spOnce (K:W.Frag) (vs:List V) (H:Hp) (Q:VK) (E:XK):Prop
 | mk:∀hp (hs:List Str),vs= [.ref hp]->SqL K H hp (hs.map V.str)->hs.length<=1000->hs.Nodup->(∀H',zz H H'->Q (.ref hp) H')->spOnce K vs H Q E
theorem z6n:FnScope ["heads"] ["heads"] (zm z1F):=by walk_at "s"
theorem z5U(F:Fun K "each_once" "each_once" z1F f fd)(T:Txt K mg)(R:TxtP K mg):FnOk P w K mg base CX0 1 f fd ["heads"] (spOnce K):=by
 refine F.okB z6n (λvs H Q E h=> ?_) (λvs H Q E h=> ?_)
 ·obtain⟨hp,hs,rfl,_⟩:=h
  rfl
 obtain⟨hp,hs,rfl,b,hl,nd,q⟩:=h;intro ad A outer d hr;refine⟨_,(zc (zC (cmT z05 (zR (z74 (P:=P) (w:=w) rfl rfl) rfl T.len PySem.boot_len (zX (jg (zbd (P:=P) (w:=w) (K:=K) rfl rfl rfl rfl) rfl R.set PyProof.Rows.boot_set (zf v0 zb)) zb)) (leN T.len (zf v0 zb)))
   (zg z2E)
   zu)
  (zg (zt v0))),?_⟩
 generalize hK0:K=K1
 revert K1
 refine jq (by walk_at "cl") ?_;refine !⟨hp,hs,rfl,b,hl,λa ha=> ?_⟩;refine ze (upd _ a _) rfl ha λH1 c x1=> ?_
 refine⟨a,!⟨x1,!⟨hp,!⟨.inl (c.seq b),rfl,!?_⟩⟩⟩⟩;refine ifF ?_ ?_
 ·rw [(z7J hs).mpr nd,w9];simp
 ·exact !(q _ c)
inductive spOne (K:W.Frag) (vs:List V) (H:Hp) (Q:VK) (E:XK):Prop
 | mk:∀th tr q r v hp,vs= [v,.ref hp]->TabOk th tr->QAt H q v->kids q= [r]->wfQ th q->H hp=some (.lst ((za th r).map V.str))->(∀(aa:Addr) (H':Hp),zz H H'->H' aa=some (.lst ((za th q).map V.str))->Q (.ref aa) H')->spOne K vs H Q E
theorem z1b(h:c.ok hs):∀s∈c.cols,s∈hs:=by
 have side:∀{a:Side},a.ok hs->∀s∈a.cols,s∈hs:=λ{a} h s m=>by
  cases a with
  | nm x=>rw [show s=x from wz.mp m];exact h
  | nu i=>cases m
 induction c with
 | less a b=>exact λs m=>(wA.mp m).elim (side h.1 s) (side h.2 s)
 | same a b=>exact λs m=>(wA.mp m).elim (side h.1 s) (side h.2 s)
 | no c j=>exact j h
 | an c d e f=>exact λs m=>(wA.mp m).elim (e h.1 s) (f h.2 s)
 | or c d e f=>exact λs m=>(wA.mp m).elim (e h.1 s) (f h.2 s)
def zeG{x y z u t:α}{r:List α}:atI (x :: y :: z :: u :: t :: r) 4=some t:=zN (j:=4) rfl
theorem z0K:FnScope ["question","heads","word"] ["question","heads"] (zm kL):=by walk_at "s"
theorem z2O(F:Fun K "heads_over_one" "heads_over_one" kL f fd)(T:Txt K mg)(d:Kn P w K mg base 1 "check_columns" ["names","heads"] (spCheck K))(j:Kn P w K mg base 1 "columns_of" ["condition"] (spCols K))(i:Kn P w K mg base 1 "each_once" ["heads"] (spOnce K)):FnOk P w K mg base CX0 2 f fd ["question","heads"] (spOne K):=by
 refine F.okB z0K (λvs H Q E h=> ?_) (λvs H Q E h=> ?_)
 ·obtain⟨th,tr,q,r,v,hp,rfl,_⟩:=h
  rfl
 obtain⟨th,tr,q,r,v,hp,rfl,TT,hq,t,wf,u,fin⟩:=h;intro ad A outer O hr;refine⟨_,(zc (seT 2 z0K (ixT v0 zd))
  (zc (zC (cmT zM v2 zi)
   (zg (jh (zW d hr.m (zX (zW j hr.m (zj (ixT v0 zd) zb)) (zf v1 zb)))))
   (zg (zC (cmT zM v2 zi)
    (zg (jh (zW d hr.m (jM (zw (zj (ixT v0 zd) zb)) (zf v1 zb)))))
    (zg (zC (cmT zM v2 zi)
     (zc (jh (zW d hr.m (zj (ixT v0 zd) (zf v1 zb))))
     (zg (zt (zW i hr.m (zX (jg yo rfl T.list qR (zj (ixT v0 zd) zb)) zb)))))
     (zg (zC (cmT zM v2 zi)
      (zc (jh (zW d hr.m (jM (zw (zj (ixT v0 zd) (zj (ixT v0 zd) zb))) (zf v1 zb))))
      (zg (zt (zW i hr.m (jM (zw (zj (ixT v0 zd) (zj (ixT v0 zd) (zj (ixT v0 zd) zb)))) zb)))))
      zu)))))))
  (zg (zt v1)))),?_⟩
 generalize hK0:K=K1
 revert K1
 refine jq (by walk_at "cl") ?_;have l0:∀n:Nat,n<=10->n<=sizeLine:=λn h=>je (by lia)
 have no:∀{a b:Str},a≠b->decide (V.str a=V.str b)=false:=λ{a b} h=>by rw [zV];exact wL h
 have z:∀a:Str,decide (V.str a=V.str a)=true:=λa=>wS rfl
 cases q with
 | table n=>cases t
 | pair a b=>cases t
 | join x y a b=>cases t
 | both a b=>cases t
 | pick c q'=>
  cases (show q'=r from(List.cons.inj t).1);obtain⟨p,x,y,rfl,h1,h2,B⟩:=hq;refine !(zh h1 zF ?_);refine !⟨rfl,!?_⟩;refine ifT (z _) ?_;refine !(zh h1 j6 ⟨c,x,c.cols,rfl,h2,by have:=wf.2.1;lia,λs m=>m,by have:=c.cols_le;have:=wf.2.1;lia,λl ss H1 o x1 nd mem N=> ?_⟩);refine !⟨l,hp,ss,_,rfl,.inl (SqL.of x1),SqL.of (o _ _ u),λs m=>z1b wf.1 s ((mem s).mp m),?_⟩;exact !(fin hp H1 o (o _ _ u))
 | sort a q'=>
  cases (show q'=r from(List.cons.inj t).1);obtain⟨p,y,rfl,h1,B⟩:=hq;refine !(zh h1 zF ?_);refine !⟨rfl,!?_⟩;refine ifF (no (by decide +kernel)) ?_;refine !⟨rfl,!?_⟩;refine ifT (z _) ?_;refine !(zh h1 j6 ⟨l0 1 (by decide),λl hl=> ?_⟩);refine ze (upd _ l _) rfl hl λH1 o x1=> ?_
  refine !⟨l,hp,[a],_,rfl,.inl (SqL.of x1),SqL.of (o _ _ u),λs m=>by rw [wz.mp m];exact wf.1,?_⟩;exact !(fin hp H1 o (o _ _ u))
 | cols ns q'=>
  cases (show q'=r from(List.cons.inj t).1);obtain⟨p,x,y,rfl,h1,h2,B⟩:=hq;refine !(zh h1 zF ?_);refine !⟨rfl,!?_⟩;refine ifF (no (by decide +kernel)) ?_;refine !⟨rfl,!?_⟩;refine ifF (no (by decide +kernel)) ?_;refine !⟨rfl,!?_⟩;refine ifT (z _) ?_;refine !(zh h1 j6 (!⟨x,hp,ns,_,rfl,.inr (SqT.of h2),SqL.of u,wf.2.1,?_⟩));refine !(zh h1 j6 ⟨x,!⟨.inr (SqT.of h2),λl hl=> ?_⟩⟩);refine ze (upd _ l _) rfl hl λH1 o x1=> ?_
  have:=(jL TT wf).2;have L:ns.length<=1000:=by have:ns.length<=100:=this;lia
  exact⟨l,ns,rfl,SqL.of x1,L,wf.1,λH2 C=>fin l H2 (o.trans C) (C _ _ x1)⟩
 | group a b n s q'=>
  cases (show q'=r from(List.cons.inj t).1);obtain⟨p,y,rfl,h1,B⟩:=hq;refine !(zh h1 zF ?_);refine !⟨rfl,!?_⟩;refine ifF (no (by decide +kernel)) ?_;refine !⟨rfl,!?_⟩;refine ifF (no (by decide +kernel)) ?_;refine !⟨rfl,!?_⟩;refine ifF (no (by decide +kernel)) ?_;refine !⟨rfl,!?_⟩;refine ifT (z _) ?_;refine !(zh h1 j6 (!(zh h1 jr ⟨l0 2 (by decide),λl hl=> ?_⟩)));refine ze (upd _ l _) rfl hl λH1 o x1=> ?_
  refine !⟨l,hp,[a,b],_,rfl,.inl (SqL.of x1),SqL.of (o _ _ u),λs m=> ?_,?_⟩
  ·rcases wH.mp m with e | m
   ·rw [e];exact wf.1
   ·rw [wz.mp m];exact wf.2.1
  ·have D:=o _ _ h1;refine !(zh D j6 (!(zh D z1L (!(zh D zeG ⟨l0 3 (by decide),λl2 M=> ?_⟩)))));refine ze (upd _ l2 _) rfl M λH2 C I=> ?_
   exact⟨l2,[a,n,s],rfl,SqL.of I,by show 3<=1000;decide,wf.2.2.1,λJ G=>fin l2 J (o.trans (C.trans G)) (G _ _ I)⟩
 | first n q'=>
  cases (show q'=r from(List.cons.inj t).1);obtain⟨p,y,rfl,h1,B⟩:=hq;refine !(zh h1 zF ?_);refine !⟨rfl,!?_⟩;refine ifF (no (by decide +kernel)) ?_;refine !⟨rfl,!?_⟩;refine ifF (no (by decide +kernel)) ?_;refine !⟨rfl,!?_⟩;refine ifF (no (by decide +kernel)) ?_;refine !⟨rfl,!?_⟩;refine ifF (no (by decide +kernel)) ?_;exact !(fin hp H (zz.refl _) u)
inductive spTwo (K:W.Frag) (vs:List V) (H:Hp) (Q:VK) (E:XK):Prop
 | mk:∀th tr q r t v hp op,vs= [v,.ref hp,.ref op]->TabOk th tr->QAt H q v->kids q= [r,t]->wfQ th q->H hp=some (.lst ((za th r).map V.str))->H op=some (.lst ((za th t).map V.str))->(∀(aa:Addr) (H':Hp),zz H H'->H' aa=some (.lst ((za th q).map V.str))->Q (.ref aa) H')->spTwo K vs H Q E
theorem z36:FnScope ["question","heads","others"] ["question","heads","others"] (zm kN):=by walk_at "s"
theorem z2G(F:Fun K "heads_over_two" "heads_over_two" kN f fd)(T:Txt K mg)(e:Kn P w K mg base 1 "check_columns" ["names","heads"] (spCheck K))(i:Kn P w K mg base 1 "each_once" ["heads"] (spOnce K)):FnOk P w K mg base CX0 2 f fd ["question","heads","others"] (spTwo K):=by
 refine F.okB z36 (λvs H Q E h=> ?_) (λvs H Q E h=> ?_)
 ·obtain⟨th,tr,q,r,t,v,hp,op,rfl,_⟩:=h
  rfl
 obtain⟨th,tr,q,r,t,v,hp,op,rfl,TT,hq,j,wf,z,C,fin⟩:=h;intro ad A outer Z hr;have R:=z1x hr;refine⟨_,(zc (zC (cmT zM (ixT v0 zd) zi)
   (zc (zC (cmT (z9P (K:=K) rfl R) v1 v2)
    (zg z2E)
    zu)
   (zg (zt v1)))
   zu)
  (zc (zC (cmT zM (ixT v0 zd) zi)
   (zc (jh (zW e hr.m (jM (zw (zj (ixT v0 zd) zb)) (zf v1 zb))))
   (zg (jh (zW e hr.m (jM (zw (zj (ixT v0 zd) zb)) (zf v2 zb))))))
   zu)
  (zg (zt (zW i hr.m (yy (zr kH v1 v2) zb)))))),?_⟩
 generalize hK0:K=K1
 revert K1
 refine jq (by walk_at "cl") ?_;have l0:∀n:Nat,n<=10->n<=sizeLine:=λn h=>je (by lia)
 have no:∀{a b:Str},a≠b->decide (V.str a=V.str b)=false:=λ{a b} h=>by rw [zV];exact wL h
 have L:∀a:Str,decide (V.str a=V.str a)=true:=λa=>wS rfl
 have o:=jL TT wf;cases q with
 | table n=>cases j
 | pick c a=>cases j
 | cols ns a=>cases j
 | first n a=>cases j
 | sort n a=>cases j
 | group a b n s q=>cases j
 | both a b=>
  obtain⟨rfl,B⟩:=List.cons.inj j;obtain⟨rfl,_⟩:=List.cons.inj B;obtain⟨p,x,y,rfl,h1,h2,M⟩:=hq;refine !(zh h1 zF ⟨rfl,!?_⟩);refine ifT (L _) ?_;refine !(!⟨hp,op,ex2 rfl rfl ⟨SqL.of z,SqL.of C,jo _,jo _,!?_⟩⟩);refine ifF (by rw [zb4,wS wf.1];rfl) ?_;exact !(fin hp H (zz.refl _) z)
 | pair a b=>
  obtain⟨rfl,B⟩:=List.cons.inj j;obtain⟨rfl,_⟩:=List.cons.inj B;obtain⟨p,x,y,rfl,h1,h2,M⟩:=hq;refine !(zh h1 zF ⟨rfl,!?_⟩);refine ifF (no (by decide +kernel)) ?_;refine !(zh h1 zF ⟨rfl,!?_⟩);refine ifF (no (by decide +kernel)) ?_;refine !(!⟨hp,op,ex2 rfl rfl ⟨z,C,je (by rw [w9,w9];have:=o.2;rw [show za th (Qn.pair a b)=za th a ++ za th b from rfl,wg]at this;lia),λl hl=> ?_⟩⟩);refine ze (upd _ l _) rfl hl λH1 u x1=> ?_
  rw [<-wK]at x1;exact⟨l,_,rfl,SqL.of x1,by have:(za th a ++ za th b).length<=100:=o.2;lia,o.1,λH2 D=>fin l H2 (u.trans D) (D _ _ x1)⟩
 | join c d a b=>
  obtain⟨rfl,B⟩:=List.cons.inj j;obtain⟨rfl,_⟩:=List.cons.inj B;obtain⟨p,x,y,rfl,h1,h2,M⟩:=hq;refine !(zh h1 zF ⟨rfl,!?_⟩);refine ifF (no (by decide +kernel)) ?_;refine !(zh h1 zF ⟨rfl,!?_⟩);refine ifT (L _) ?_;refine !(zh h1 j6 ⟨l0 1 (by decide),λl hl=> ?_⟩);refine ze (upd _ l _) rfl hl λH1 u x1=> ?_
  refine !⟨l,hp,[c],_,rfl,.inl (SqL.of x1),SqL.of (u _ _ z),λs m=>by rw [wz.mp m];exact wf.1,?_⟩;refine !(zh (u _ _ h1) jr ⟨l0 1 (by decide),λl2 U=> ?_⟩);refine ze (upd _ l2 _) rfl U λH2 D X=> ?_
  have n12:=u.trans D;refine !⟨l2,op,[d],_,rfl,.inl (SqL.of X),SqL.of (n12 _ _ C),λs m=>by rw [wz.mp m];exact wf.2.1,?_⟩;refine !(!⟨hp,op,ex2 rfl rfl ⟨n12 _ _ z,n12 _ _ C,je (by rw [w9,w9];have:=o.2;rw [show za th (Qn.join c d a b)=za th a ++ za th b from rfl,wg]at this;lia),λG J=> ?_⟩⟩);refine ze (upd _ G _) rfl J λY O I=> ?_
  rw [<-wK]at I;exact⟨G,_,rfl,SqL.of I,by have:(za th a ++ za th b).length<=100:=o.2;lia,o.1,λS N=>fin G S (n12.trans (O.trans N)) (N _ _ I)⟩
inductive spHeadsAt (K:W.Frag) (vs:List V) (H:Hp) (Q:VK) (E:XK):Prop
 | mk:∀th tr q v tp wl ws,vs= [.ref tp,v,.ref wl]->TabOk th tr->jz th tr H tp->QAt H q v->wfQ th q->H wl=some (.lst ws)->z1i (zf0 th) H (kids q) ws->(∀(hp:Addr) (H':Hp),zz H H'->H' hp=some (.lst ((za th q).map V.str))->Q (.ref hp) H')->spHeadsAt K vs H Q E
theorem z70:FnScope ["tables","question","within"] ["tables","question","within"] (zm z2x):=by walk_at "s"
theorem z6u(F:Fun K "heads_at" "heads_at" z2x f fd)(T:Txt K mg)(a:Kn P w K mg base 1 "heads_of_table" ["tables","name"] (spHOT K))(c:Kn P w K mg base 2 "heads_over_one" ["question","heads"] (spOne K))(b:Kn P w K mg base 2 "heads_over_two" ["question","heads","others"] (spTwo K)):FnOk P w K mg base CX0 3 f fd ["tables","question","within"] (spHeadsAt K):=by
 refine F.okB z70 (λvs H Q E h=> ?_) (λvs H Q E h=> ?_)
 ·obtain⟨th,tr,q,v,tp,wl,ws,rfl,_⟩:=h
  rfl
 obtain⟨th,tr,q,v,tp,wl,ws,rfl,TT,o,hq,wf,d,rs,fin⟩:=h;intro ad A outer I hr;refine⟨_,(zc (zC (cmT zM (leN T.len (zf v2 zb)) zd)
   (zg (zt (zW a hr.m (zf v0 (zj (ixT v1 zd) zb)))))
   zu)
  (zc (zC (cmT zM (leN T.len (zf v2 zb)) zd)
   (zg (zt (zW c hr.m (zf v1 (zj (ixL v2 zd) zb)))))
   zu)
  (zg (zt (zW b hr.m (zf v1 (zj (ixL v2 zd) (zj (ixL v2 zd) zb)))))))),?_⟩
 generalize hK0:K=K1
 revert K1
 refine jq (by walk_at "cl") ?_;have i:=rs.len;rcases zd3 hq with⟨n,p,rfl,rfl,hp⟩ | ⟨r,p,w,xs,y,hk,rfl,hp,hy,bx,hw⟩ | ⟨r,t,p,w,xs,x,y,hk,rfl,hp,hx,hy,bx,hw⟩
 ·have l0:ws.length=0:=i;refine !⟨wl,!⟨.inl (SqL.of d),rfl,!?_⟩⟩;refine ifT (by rw [l0];simp) ?_;exact !(!(zh hp j6 ⟨th,tr,tp,n,rfl,o,wf,by have:=(jL TT wf).2;have:(th n).length<=100:=this;lia,fin⟩))
 ·rw [hk]at rs i;obtain⟨u,us,rfl,⟨j,rfl,e⟩,l⟩:=rs;have z:us= []:=l;subst z;refine !⟨wl,!⟨.inl (SqL.of d),rfl,!?_⟩⟩;refine ifF (by simp) ?_;refine !⟨wl,!⟨.inl (SqL.of d),rfl,!?_⟩⟩;refine ifT (by simp) ?_;exact !(!(zx d zF ⟨th,tr,q,r,.ref p,j,rfl,TT,hq,hk,wf,e,fin⟩))
 ·rw [hk]at rs i;obtain⟨u,us,rfl,⟨j,rfl,e⟩,G,D,rfl,⟨C,rfl,l⟩,B⟩:=rs;have s:D= []:=B;subst s;refine !⟨wl,!⟨.inl (SqL.of d),rfl,!?_⟩⟩;refine ifF (by simp) ?_;refine !⟨wl,!⟨.inl (SqL.of d),rfl,!?_⟩⟩;refine ifF (by simp) ?_;exact !(!(zx d zF (!(zx d j6 ⟨th,tr,q,r,t,.ref p,j,C,rfl,TT,hq,hk,wf,e,l,fin⟩))))
def zeY{T:Addr}{lp:Pos}{q:Str}(a:z1P H T lp q)(k:Kp T H H'):Nt H H':=λb o e n=>k b o (a.ne e n) e
def _root_.L2.WorkOk.mono{CX:CXT}{k:Nat}{fs:List Addr}{s:Shared}{lf:Addr}(W:WorkOk P w K mg base CX j fs H s lf sp)(h:j<=k):WorkOk P w K mg base CX k fs H s lf sp:=
 ⟨W.here,λA outer s' H' us vs Q E hr=>W.run A outer s' H' us vs Q E (hr.mono h)⟩
def _root_.Rw.RowsAt.nt(h:RowsAt H p rs)(k:Nt H H'):RowsAt H' p rs:=⟨k.lst h.1,λr m=>⟨(h.2 r m).1,k.lst (h.2 r m).2⟩⟩
theorem TabAt.nt{v:V}(h:TabAt th tr H v n)(k:Nt H H'):TabAt th tr H' v n:=by
 obtain⟨p,hp,rp,rs,rfl,h1,c,b,a⟩:=h;exact⟨p,hp,rp,rs,rfl,k.tup h1,k.lst c,b.nt k,a⟩
theorem jz.nt(h:jz th tr H p)(k:Nt H H'):jz th tr H' p:=by
 obtain⟨v0,v1,v2,h0,a,b,c⟩:=h;exact⟨v0,v1,v2,k.lst h0,a.nt k,b.nt k,c.nt k⟩
def _root_.Qs.QAt.nt{v:V}(h:QAt H q v)(k:Nt H H'):QAt H' q v:=h.mono λb xs e=>k.tup e
theorem z2U(h:wfQ th q):∀r∈kids q,wfQ th r:=by cases q <;> simp_all [kids,wfQ]
def zcO(h:wfQ th q):∀r∈post q,wfQ th r:=zaJ (λ_=>z2U) _ h
theorem yh(T:TabOk th tr):∀{q:Qn},wfQ th q->∀r∈rowsOf th tr q,r.length=(za th q).length
 | .table n,h=>λr m=>T.rl n h r m
 | .pick c q,h=>λr m=>yh T (q:=q) h.2.2 r (Qz.mp m).1
 | .cols ns q,h=>λr m=>by
  obtain⟨x,_,rfl⟩:=qI.mp m;rw [w9];rfl
 | .pair q s,h=>λr m=>by
  obtain⟨x,e,y,d,rfl⟩:=z24 m
  show _=(za th q ++ za th s).length
  rw [wg,wg,yh T (q:=q) h.2.2.1 x e,yh T (q:=s) h.2.2.2 y d]
 | .join a b q s,h=>λr m=>by
  obtain⟨x,e,y,d,rfl⟩:=z24 (Qz.mp m).1
  show _=(za th q ++ za th s).length
  rw [wg,wg,yh T (q:=q) h.2.2.2.2.1 x e,yh T (q:=s) h.2.2.2.2.2 y d]
 | .both q s,h=>λr m=>by
  rcases wA.mp m with m | m
  ·exact yh T (q:=q) h.2.1 r m
  ·have:=yh T (q:=s) h.2.2 r m;rw [<-h.1]at this;exact this
 | .first n q,h=>λr m=>yh T (q:=q) h.2 r (QK m)
 | .group a b n s q,h=>λr m=>by
  obtain⟨x,_,rfl⟩:=qI.mp m
  rfl
 | .sort a q,h=>λr m=>yh T (q:=q) h.2 r (z5H m)
theorem z2T(q:Qn):(kids q).length<=2:=by cases q <;> simp [kids]
inductive spAgain (K:W.Frag) (vs:List V) (H:Hp) (Q:VK) (E:XK):Prop
 | mk:∀th tr tp,vs= [.ref tp]->TabOk th tr->jz th tr H tp->(∀(p:Addr) (H':Hp),zz H H'->jz th tr H' p->Q (.ref p) H')->spAgain K vs H Q E
theorem z6v(h:i < 3):tabs.getD i ""∈tabs:=by
 match i,h with
 | 0,_=>decide +kernel
 | 1,_=>decide +kernel
 | 2,_=>decide +kernel
def zbK{P:List α->Prop}(h:∀a,P [a]):∀us:List α,us.length=1->P us
 | [a],_=>h a
def zaL{P:List α->Prop}(h:∀a b,P [a,b]):∀us:List α,us.length=2->P us
 | a :: l,e=>zbK (P:=λl=>P (a :: l)) (h a) l (Nat.succ.inj e)
def zbe{P:List α->Prop}(h:∀a b c,P [a,b,c]):∀us:List α,us.length=3->P us
 | a :: l,e=>zaL (P:=λl=>P (a :: l)) (h a) l (Nat.succ.inj e)
def zeD{P:List α->Prop}(h:∀a b c d,P [a,b,c,d]):∀us:List α,us.length=4->P us
 | a :: l,e=>zbe (P:=λl=>P (a :: l)) (h a) l (Nat.succ.inj e)
theorem zcP(h:H p=some (.lst ys))(hl:ys.length=3)(d:∀j,j < 3->∃y,ys[j]? =some y/\TabAt th tr H y (tabs.getD j "")):jz th tr H p:=by
 obtain⟨a,b,c,rfl⟩:∃a b c,ys= [a,b,c]:=zbe (P:=λys=>∃a b c,ys= [a,b,c]) (λ_ _ _=>⟨_,_,_,rfl⟩) ys hl
 obtain⟨_,i,l⟩:=d 0 (by decide);obtain⟨_,e,f⟩:=d 1 (by decide);obtain⟨_,o,n⟩:=d 2 (by decide);cases i;cases e;cases o;exact⟨a,b,c,h,l,f,n⟩
theorem z4U:FnScope ["_law_tables"] ["_law_tables"] (zm kD):=by walk_at "s"
theorem z57(F:Fun K "_law_again" "_law_again" kD f fd)(T:Txt K mg):FnOk P w K mg base CX0 1 f fd ["_law_tables"] (spAgain K):=by
 refine F.okB z4U (λvs H Q E h=> ?_) (λvs H Q E h=> ?_)
 ·obtain⟨th,tr,tp,rfl,_⟩:=h
  rfl
 obtain⟨th,tr,tp,rfl,TT,h4,fin⟩:=h;obtain⟨vs,Y,S,dA⟩:=z2P h4;intro ad A outer sh hr;refine⟨_,(zg (zt (yI rfl (CompSc.of (sx:=zm kD) (NX:= ["_law_tables"]) (fr:= []) (ix:= []) rfl rfl (by decide +kernel)) (jb v0) (λ_ _ _ _ _ _=>jZ) (λ_ _ _ _ _ _=>(zB (zj (yD (kc (K:=K) rfl) v0 zd (λ_ _=>rfl)) (zX (jg (z2j (K:=K) rfl) rfl T.list qR (zj (yD (kc (K:=K) rfl) v0 zd (λ_ _=>rfl)) zb)) (z1u (yI rfl (CompSc.of2 (sx:=zm kD) (NX:= ["_law_one"]) (fr:= []) (ix:= []) rfl rfl (by decide +kernel)) (z75 (K:=K) rfl (yD (kc (K:=K) rfl) v0 zd (λ_ _=>rfl))) (λ_ _ _ _ _ _=>jZ) (λ_ _ _ _ _ _=>(jg (z2j (K:=K) rfl) rfl T.list qR (zf v0 zb)))) zb)))))))),?_⟩;generalize hK0:K=K1
 revert K1
 refine jq (by walk_at "cl") ?_;refine !⟨tp,rfl,⟨_,SqL.of Y⟩,?_⟩;refine jH (xs:=vs) (λi ys H'=>zz H H'/\ys.length=i/\∀j,j < i->∃y,ys[j]? =some y/\TabAt th tr H' y (tabs.getD j "")) ⟨zz.refl _,rfl,λj z=>absurd z (w1v _)⟩ ?_ ?_ ?_
 ·rintro i ys H' hi ⟨b,hl,_⟩;exact⟨SqL.of (b _ _ Y),zK (by rw [hl];lia)⟩
 ·rintro i x ys H' hi ⟨b,hl,t⟩;have dS:i < 3:=by rw [<-S];exact(wk.mp hi).1
  obtain⟨v,O,p,hp,rp,rs,rfl,X,t2,t3,t4⟩:=dA i dS;rw [hi]at O;cases O;have M:=z8Y TT _ (z6v dS);have DS:rs.length<=60:=by rw [<-t4,w9]at M;exact M
  have C:(refs rs).length=rs.length:=w9 _;have R:=b _ _ X;refine !(zh R zF (!(zh R j6 ⟨hp,!⟨.inl (SqL.of (b _ _ t2)),λl ic=> ?_⟩⟩)));refine ze (upd _ l _) rfl ic λH1 n x1=> ?_
  have s1:=b.trans n;have D:=t3.same s1;refine !(zh (s1 _ _ X) jr ⟨rp,rfl,⟨_,SqL.of D.1⟩,?_⟩);refine jH (xs:=refs rs) (λj zs o=>zz H1 o/\∃qs:List (Addr×List Int),zs=refs qs/\qs.length=j/\(∀r∈qs,H1 r.1=none/\o r.1=some (.lst (r.2.map V.int)))/\qs.map (·.2)=(rs.take j).map (·.2)) ⟨zz.refl _,[],rfl,rfl,λ_ z=>(nomatch z),rfl⟩ ?_ ?_ ?_
  ·rintro j zs o a ⟨c,qs,rfl,hq,_⟩;rw [C]at a;exact⟨SqL.of (c _ _ D.1),zK (by rw [w9];lia)⟩
  ·rintro j y zs o a ⟨c,qs,rfl,hq,s,u⟩;have G:j < rs.length:=by
    have:=(wk.mp a).1
    rwa [C]at this
   rw [z0c G]at a;cases a;refine !⟨_,!⟨.inl (SqL.of (c _ _ (D.2 _ (wI G)).2)),λl2 aD=> ?_⟩⟩;have I:=zJ aD (.lst (rs[j].2.map V.int));refine⟨c.trans I,qs ++ [(l2,rs[j].2)],by simp [refs],by rw [wg,hq];rfl,λr m=> ?_,?_⟩
   ·rcases wA.mp m with m | m
    ·exact⟨(s r m).1,I _ _ (s r m).2⟩
    ·rw [wz.mp m];exact⟨c.free aD,zl⟩
   ·rw [wK,u,q5,we G,wK]
    rfl
  ·rintro zs o ⟨c,qs,rfl,hq,s,u⟩ J Z;rw [C,qH]at u;refine ze (upd _ J _) rfl Z λH4 n4 x4=> ?_
   refine⟨(zq rfl),λq d=> ?_⟩;refine ze (upd _ q _) rfl d λH5 N x5=> ?_
   have L:=c.trans (n4.trans N);have U:=n.trans L;refine⟨b.trans U,by rw [wg,hl];rfl,λj a=> ?_⟩;by_cases i6:j < i
   ·obtain⟨y,B,ty⟩:=t j i6;exact⟨y,by rw [qU (by lia)];exact B,ty.same U⟩
   ·have e:j=i:=by lia
    subst e;refine⟨_,by rw [qS (by lia),hl,w1n];rfl,q,l,J,qs,rfl,x5,L _ _ x1,(z0a Z n4 x4 λr m=>(s r m).2).same N,by rw [u];exact t4⟩
 ·rintro ys H' ⟨b,hl,t⟩ np aA;rw [S]at hl t;refine ze (upd _ np _) rfl aA λH1 n x1=> ?_
  refine fin np H1 (b.trans n) (zcP x1 hl λj a=> ?_);obtain⟨y,B,ty⟩:=t j a;exact⟨y,B,ty.same n⟩
inductive spKept (K:W.Frag) (vs:List V) (H:Hp) (Q:VK) (E:XK):Prop
 | mk:∀th tr hp tp,vs= [.ref hp,.ref tp]->TabOk th tr->jz th tr H hp->jz th tr H tp->Q (.bl true) H->spKept K vs H Q E
theorem zbL(T:TabOk th tr)(h:n∈tabs):(th n).length<=100/\∀r∈tr n,r.length<=100:=by
 have h1:=(jL T (q:= .table n) h).2;exact⟨h1,λr m=>by rw [T.rl n h r m];exact h1⟩
theorem z2M:FnScope ["_law_handed","_law_tables","_law_k"] ["_law_handed","_law_tables"] (zm z1G):=by walk_at "s"
theorem z6k(F:Fun K "_law_kept" "_law_kept" z1G f fd)(T:Txt K mg)(a:Kn P w K mg base 1 "_law_texts" ["_law_found","_law_due"] (spTexts K))(b:Kn P w K mg base 3 "_law_alike" ["_law_found","_law_due"] (spAlike K)):FnOk P w K mg base CX0 4 f fd ["_law_handed","_law_tables"] (spKept K):=by
 refine F.okB z2M (λvs H Q E h=> ?_) (λvs H Q E h=> ?_)
 ·obtain⟨th,tr,hp,tp,rfl,_⟩:=h
  rfl
 obtain⟨th,tr,hp,tp,rfl,TT,N,I,q⟩:=h;obtain⟨vs,c,J,C⟩:=z2P N;obtain⟨us,j,t,Z⟩:=z2P I;intro ad A outer sh hr;refine⟨_,(zc (zC (cmT z05 (leN T.len (zf v0 zb)) (leN T.len (zf v1 zb)))
   (zg (zt jD))
   zu)
  (zc (foR (jW rfl T.range (zX (leN T.len (zf v1 zb)) zb)) (gnM 2 z2M)
   (zc (zC (z1K (jT (zY (zR zS rfl T.isinstance wO (zj (ixL v0 v2) (zf (jQ (v:= .ty "tuple") rfl T.tuple Qg rfl) zb))))) (cmT z05 (leN T.len (zj (ixL v0 v2) zb)) zd))
    (zg (zt jD))
    zu)
   (zc (zC (jT (zY (zW a hr.m (zj (ixT (ixL v0 v2) zd) (zj (ixT (ixL v1 v2) zd) zb)))))
    (zg (zt jD))
    zu)
   (zc (zC (jT (zY (zW b hr.m (zj (ixT (ixL v0 v2) zd) (zj (ixT (ixL v1 v2) zd) zb)))))
    (zg (zt jD))
    zu)
   (zg (zC (z1K (jT (zY (zR zS rfl T.isinstance wO (zj (ixT (ixL v0 v2) zd) (zf (jQ (v:= .ty "str") rfl T.str Q0 rfl) zb))))) (cmT z05 (ixT (ixL v0 v2) zd) (ixT (ixL v1 v2) zd)))
    (zg (zt jD))
    zu))))))
  (zg (zt jD)))),?_⟩
 generalize hK0:K=K1
 revert K1
 refine jq (by walk_at "cl") ?_;refine !⟨hp,!⟨.inl (SqL.of c),!⟨tp,!⟨.inl (SqL.of j),rfl,!?_⟩⟩⟩⟩;refine ifF (by rw [J,t];simp) ?_;refine !⟨tp,!⟨.inl (SqL.of j),!⟨by lia,by rw [t];decide,z0v (lo:=0) (n:=us.length) (λi σ H'=>∃o2,σ= [some (.ref hp),some (.ref tp),o2]/\H'=H) ⟨none,rfl,rfl⟩ ?_ ?_⟩⟩⟩
 ·rintro i σ H' hi ⟨o2,rfl,rfl⟩;have s:i < 3:=by rw [<-t];exact hi
  obtain⟨v,D,p,h1,r1,O,rfl,e,t2,Y,x⟩:=C i s;obtain⟨u,G,p',S,M,R,rfl,o,U,L,B⟩:=Z i s;have d:atI vs (0 + (i:Int))=some (V.ref p):=by rw [QH];exact zN D
  have l:atI us (0 + (i:Int))=some (V.ref p'):=by rw [QH];exact zN G
  have y:=z6v s;obtain⟨wn,z⟩:=zbL TT y;have X:=z8Y TT _ y;refine !(!(zx c d ⟨_,_,_,!⟨TyOf.tup e,jC,!⟨_,(!(!(zx c d ⟨p,!⟨.inr (SqT.of e),rfl,!⟨rfl,rfl⟩⟩⟩))),?_⟩⟩⟩));refine ifF (by rfl) ?_;refine !(!(zx c d (zh e j6 (!(!(zx j l (zh o j6 ⟨h1,S,_,rfl,t2,SqL.of U,by lia,!?_⟩)))))));refine ifF (by rfl) ?_;refine !(!(zx c d (zh e jr (!(!(zx j l (zh o jr ⟨r1,M,O,R,rfl,Y,L,by rw [x,B],by rw [<-x,w9]at X;lia,λr m=>by have:=z r.2 (by rw [<-x];exact qI.mpr ⟨r,m,rfl⟩);lia,!?_⟩)))))));refine ifF (by rfl) ?_;refine !(!(zx c d (zh e zF ⟨_,_,_,!⟨TyOf.str _,jC,!⟨_,(!(!(zx c d (zh e zF (!(!(zx j l (zh o zF ⟨rfl,!⟨rfl,rfl⟩⟩)))))))),?_⟩⟩⟩)));refine ifF (by simp) ?_;exact !rfl
 ·rintro σ H' ⟨o2,rfl,rfl⟩;exact q
theorem z2I(h:∀s∈c.cols,s∈hs):c.ok hs:=by
 have side:∀{a:Side},(∀s∈a.cols,s∈hs)->a.ok hs:=λ{a} h=>by
  cases a with
  | nm x=>exact h x (wz.mpr rfl)
  | nu i=>trivial
 induction c with
 | less a b=>exact⟨side λs m=>h s (qc _ m),side λs m=>h s (wG _ m)⟩
 | same a b=>exact⟨side λs m=>h s (qc _ m),side λs m=>h s (wG _ m)⟩
 | no c j=>exact j h
 | an c d e f=>exact⟨e λs m=>h s (qc _ m),f λs m=>h s (wG _ m)⟩
 | or c d e f=>exact⟨e λs m=>h s (qc _ m),f λs m=>h s (wG _ m)⟩
theorem z6b{gs:List Str}{r t:List Int}(h:∀s∈c.cols,r.getD (hs.idxOf s) 0=t.getD (gs.idxOf s) 0):ev hs r c=ev gs t c:=by
 have side:∀{a:Side},(∀s∈a.cols,r.getD (hs.idxOf s) 0=t.getD (gs.idxOf s) 0)->num hs r a=num gs t a:=λ{a} h=>by
  cases a with
  | nm x=>exact h x (wz.mpr rfl)
  | nu i=>rfl
 induction c with
 | less a b=>simp only [ev,side λs m=>h s (qc _ m),side λs m=>h s (wG _ m)]
 | same a b=>simp only [ev,side λs m=>h s (qc _ m),side λs m=>h s (wG _ m)]
 | no c j=>simp only [ev,j h]
 | an c d e f=>simp only [ev,e λs m=>h s (qc _ m),f λs m=>h s (wG _ m)]
 | or c d e f=>simp only [ev,e λs m=>h s (qc _ m),f λs m=>h s (wG _ m)]
theorem z8U{y:List Int}(ok:c.ok hq)(a:x.length=hq.length):ev (hq ++ hr) (x ++ y) c=ev hq x c:=
 z6b λs m=>by
  have hs:=z1b ok s m;have hl:=qX.mpr hs;rw [List.idxOf_append,wY hs,ww,ww,qU (by lia)]
theorem z6G{y:List Int}(a:∀n∈hq,n∉hr)(ok:c.ok hr)(b:x.length=hq.length):ev (hq ++ hr) (x ++ y) c=ev hr y c:=
 z6b λs m=>by
  have hs:=z1b ok s m;rw [List.idxOf_append,wU λz=>a s z hs,ww,ww,qS (by lia),b,Nat.add_sub_cancel]
theorem zcp{r:List Int}(ok:c.ok ns):ev ns (ns.map λn=>r.getD (hs.idxOf n) 0) c=ev hs r c:=
 z6b λs m=>by
  have hm:=z1b ok s m;have hl:=qX.mpr hm;rw [ww,wQ,we hl,List.getElem_idxOf]
  rfl
theorem z1Y{key:List Int->Int}:∀{L M:List (List Int)},L.Pairwise (λa b=>key a<=key b)->M.Pairwise (λa b=>key a<=key b)->(∀k,L.filter (λr=>decide (key r=k))=M.filter λr=>decide (key r=k))->L=M
 | [],[],_,_,_=>rfl
 | [],b :: M,_,_,h=>by
  have:=h (key b);rw [qV (by simp)]at this;cases this
 | a :: L,[],_,_,h=>by
  have:=h (key a);rw [qV (by simp)]at this;cases this
 | a :: L,b :: M,p,q,h=>by
  have lo:∀{x y:List Int} {N:List (List Int)},(y :: N).Pairwise (λa b=>key a<=key b)->key x < key y->(y :: N).filter (λr=>decide (key r=key x))= []:=λ{x y N} p d=>by
   refine w0p.mpr λr m=> ?_
   rcases wH.mp m with rfl | m
   ·simp;lia
   ·have:=(List.pairwise_cons.mp p).1 r m;simp;lia
  have c:key a=key b:=by
   rcases Int.lt_trichotomy (key a) (key b)with z | z | z
   ·have:=h (key a);rw [lo q z,qV (by simp)]at this;cases this
   ·exact z
   ·have:=h (key b);rw [lo p z,qV (by simp)]at this;cases this
  have e:a=b:=by
   have:=h (key a);rw [qV (by simp),qV (by simp [c])]at this;exact(List.cons.inj this).1
  subst e;rw [z1Y (List.pairwise_cons.mp p).2 (List.pairwise_cons.mp q).2 λk=> ?_];have:=h k;by_cases cg:key a=k
  ·rw [qV (by simp [cg]),qV (by simp [cg])]at this;exact(List.cons.inj this).2
  ·rw [w0b (by simp [cg]),w0b (by simp [cg])]at this;exact this
theorem z33(s:Nat)(rows:List (List Int)):(z06 s rows).Pairwise λa b=>a.getD s 0<=b.getD s 0:=by
 unfold z06;rw [List.pairwise_map];refine(z7W _ _).imp λ{i j} h=> ?_
 have:=qD h;unfold z3v at this
 lia
theorem z9M(rows:List (List Int)):(List.range rows.length).map (λi=>rows.getD i [])=rows:=by
 apply List.ext_getElem
 ·simp
 ·intro i h1 h2;simp at h1;simp [ww,h1]
theorem z3i(s:Nat)(rows:List (List Int))(k:Int):(z06 s rows).filter (λr=>decide (r.getD s 0=k))=rows.filter λr=>decide (r.getD s 0=k):=by
 unfold z06;rw [w0o];have e:(z2A (z3v rows s) rows.length).filter ((λr:List Int=>decide (r.getD s 0=k)) ∘ λi=>rows.getD i [])=(List.range rows.length).filter ((λr:List Int=>decide (r.getD s 0=k)) ∘ λi=>rows.getD i []):=by
  refine List.Perm.eq_of_pairwise (le:=λi j=>i<=j) (λa b _ _ h1 h2=>Nat.le_antisymm h1 h2) ?_ ?_ ((z0O _ _).filter _)
  ·have:=((z7W (z3v rows s) rows.length).filter ((λr:List Int=>decide (r.getD s 0=k)) ∘ λi=>rows.getD i []));refine List.Pairwise.imp_of_mem (λ{i j} hi c h=> ?_) this;have h:=qD h;have hi:(rows.getD i []).getD s 0=k:=qD (Qz.mp hi).2;have c:(rows.getD j []).getD s 0=k:=qD (Qz.mp c).2;unfold z3v at h
   lia
  ·exact((List.pairwise_lt_range (n:=rows.length)).imp λh=>w1E h).filter _
 rw [e,<-w0o,z9M]
theorem z5O(s:Nat)(rows:List (List Int))(p:List Int->Bool):(z06 s rows).filter p=z06 s (rows.filter p):=
 z1Y (key:=λr=>r.getD s 0) ((z33 s rows).filter p) (z33 s _) λk=>by
  rw [z3i,w0U,w0U];have c:∀l:List (List Int),(l.filter λr=>decide (r.getD s 0=k) && p r)=(l.filter λr=>decide (r.getD s 0=k)).filter p:=λl=>by
   rw [w0U];exact w0I λ_ _=>Bool.and_comm _ _
  rw [c,c,z3i]
theorem z7G(s:Nat)(rows:List (List Int)):z06 s (z06 s rows)=z06 s rows:=
 z1Y (key:=λr=>r.getD s 0) (z33 s _) (z33 s _) λk=>by rw [z3i]
theorem z4H{xs ys:List (List Int)}{p q:List Int->Bool}(h:∀x∈xs,∀y∈ys,p (x ++ y)=q x):(pairs xs ys).filter p=pairs (xs.filter q) ys:=by
 unfold pairs
 induction xs with
 | nil=>rfl
 | cons x xs a=>
  rw [w0h,w0w,a λz hz=>h z (wV _ hz),w0o];have e:ys.filter (p ∘ λy=>x ++ y)=ys.filter λ_=>q x:=w0I λy b=>h x qF y b
  rw [e];cases hq:q x with
  | true=>rw [qV hq,w0h,w1g.mpr λ_ _=>rfl]
  | false=>rw [w0b (by simp [hq]),w0p.mpr λ_ _=>by simp];rfl
theorem z3w{xs ys:List (List Int)}{p q:List Int->Bool}(h:∀x∈xs,∀y∈ys,p (x ++ y)=q y):(pairs xs ys).filter p=pairs xs (ys.filter q):=by
 unfold pairs
 induction xs with
 | nil=>rfl
 | cons x xs a=>
  rw [w0h,w0w,a λz hz=>h z (wV _ hz),w0o,w0h]
  congr 2
  exact w0I λy b=>h x qF y b
noncomputable def jU(ns hs:List Str):Bool:=ns.all λn=>decide (n∈hs)
theorem jv:jU ns hs=true↔∀n∈ns,n∈hs:=by simp [jU]
noncomputable def yB(th:Str->List Str)(x y:Str)(q r:Qn):Qn:=if x∈za th q then .join x y q r else .join y x q r
noncomputable def jy(th:Str->List Str)(c:Cond)(mk:Qn->Qn->Qn)(a:Bool)(q r:Qn):Option Qn:=
 if jU c.cols (za th q)=true then some (mk (.pick c q) r)
 else if jU c.cols (za th r)=true then some (mk q (.pick c r))
 else match a,c with
  | true,.same (.nm x) (.nm y)=>some (yB th x y q r)
  | _,_=>none
noncomputable def z6J(th:Str->List Str)(c:Cond):Qn->Option Qn
 | .sort a q=>some (.sort a (.pick c q))
 | .cols ns q=>some (.cols ns (.pick c q))
 | .both q r=>some (.both (.pick c q) (.pick c r))
 | .pair q r=>jy th c .pair true q r
 | .join a b q r=>jy th c (.join a b) false q r
 | _=>none
noncomputable def ja(th:Str->List Str)(c:Cond)(q:Qn):Option Qn:=
 match c with
 | .an a b=>some (.pick a (.pick b q))
 | c=>z6J th c q
noncomputable def beneath:Qn->Qn
 | .pick _ q=>beneath q
 | q=>q
noncomputable def z3e:Cond->Bool
 | .an _ _=>true
 | _=>false
noncomputable def yc(th:Str->List Str):Qn->Option Qn
 | .pick c q=>match q with
  | .pick d r=>if z3e c=true then ja th c (.pick d r)else if(ja th c (beneath r)).isSome=true then some (.pick d (.pick c r))else none
  | q=>ja th c q
 | .first n q=>match q with
  | .first m r=>some (.first (min n m) r)
  | .cols ns r=>some (.cols ns (.first n r))
  | _=>none
 | .cols ns q=>match q with
  | .cols _ r=>some (.cols ns r)
  | _=>none
 | .sort a q=>match q with
  | .sort b r=>if b=a then some (.sort b r)else none
  | _=>none
 | _=>none
structure Eqv(th:Str->List Str)(tr:Str->List (List Int))(q q':Qn):Prop where
 h:za th q'=za th q
 r:rowsOf th tr q'=rowsOf th tr q
 wf:wfQ th q'
 sub:z2h th tr q->z2h th tr q'
inductive Prt (th:Str->List Str) (c:Cond) (mk:Qn->Qn->Qn) (b:Bool) (q r:Qn):Qn->Prop
 | l:jU c.cols (za th q)=true->Prt th c mk b q r (mk (.pick c q) r)
 | r:jU c.cols (za th r)=true->Prt th c mk b q r (mk q (.pick c r))
 | j:∀x y:Str,b=true->¬jU c.cols (za th q)=true->¬jU c.cols (za th r)=true->c= .same (.nm x) (.nm y)->Prt th c mk b q r (yB th x y q r)
theorem z1t(e:jy th c mk b q r=some q'):Prt th c mk b q r q':=by
 unfold jy at e;split at e
 ·cases e;exact .l ‹_›
 ·split at e
  ·cases e;exact .r ‹_›
  ·split at e <;> cases e
   exact .j _ _ rfl ‹_› ‹_› rfl
theorem z1h(e:ja th c q=some q'):(∃a b,c= .an a b/\q'= .pick a (.pick b q))\/z6J th c q=some q':=by
 cases c with
 | an a b=>cases e;exact .inl ⟨_,_,rfl,rfl⟩
 | _=>exact .inr e
inductive Trn (th:Str->List Str):Qn->Qn->Prop
 | s:∀c r q',ja th c r=some q'->Trn th (.pick c r) q'
 | p:∀c d r,(ja th c (beneath r)).isSome=true->Trn th (.pick c (.pick d r)) (.pick d (.pick c r))
 | f:∀n m r,Trn th (.first n (.first m r)) (.first (min n m) r)
 | c:∀n l r,Trn th (.first n (.cols l r)) (.cols l (.first n r))
 | l:∀l m r,Trn th (.cols l (.cols m r)) (.cols l r)
 | o:∀a r,Trn th (.sort a (.sort a r)) (.sort a r)
theorem z20(e:yc th q=some q'):Trn th q q':=by
 cases q with
 | pick c r=>
  cases r with
  | pick d r=>
   unfold yc at e;dsimp only at e;split at e
   ·exact .s _ _ _ e
   ·split at e <;> cases e
    exact .p _ _ _ ‹_›
  | _=>exact .s _ _ _ e
 | sort a r=>
  cases r with
  | sort b r=>
   unfold yc at e;dsimp only at e;split at e <;> cases e
   subst b;exact .o _ _
  | _=>cases e
 | first n r | cols n r=>cases r <;> cases e <;> constructor
 | _=>cases e
theorem ze3(X:List (List Int))(p s:List Int->Bool):(X.filter p).filter s=(X.filter s).filter p:=by
 simp only [w0U,Bool.and_comm]
theorem zb1(T:TabOk th tr)(sz:c.size<=20)(j:c.ok (za th q ++ za th r))(w:wfQ th (.pair q r))(e:jy th c .pair true q r=some q'):Eqv th tr (.pick c (.pair q r)) q':=by
 obtain⟨b,l,d,f⟩:=w;have i:=yh T d;rcases z1t e with h1 | h2 | ⟨x,y,_,h1,h2,rfl⟩
 ·have ok:=z2I (jv.mp h1);exact⟨rfl,(z4H λx a y _=>z8U ok (i x a)).symm,⟨b,l,⟨ok,sz,d⟩,f⟩,λs=>⟨s.1,s.2.1,wW (QL _ (qE _ _)) s.2.2⟩⟩
 ·have ok:=z2I (jv.mp h2);exact⟨rfl,(z3w λx a y _=>z6G b ok (i x a)).symm,⟨b,l,d,⟨ok,sz,f⟩⟩,λs=>⟨s.1,s.2.1,wW (QE _ (qE _ _)) s.2.2⟩⟩
 ·have a:=wA.mp (show x∈_ from j.1);have h:=wA.mp (show y∈_ from j.2);simp only [jv,Cond.cols,Side.cols,wA,wz,forall_eq_or_imp,forall_eq]at h1 h2;unfold yB;by_cases hq:x∈za th q
  ·rw [wY hq];exact⟨rfl,rfl,⟨hq,h.resolve_left λz=>h1 ⟨hq,z⟩,b,l,d,f⟩,λs=>s⟩
  ·rw [wU hq];have a:=a.resolve_left hq;exact⟨rfl,w0I λz _=>w1c.mpr ⟨Eq.symm,Eq.symm⟩,⟨h.resolve_right λz=>h2 ⟨a,z⟩,a,b,l,d,f⟩,λs=>s⟩
theorem z9h(T:TabOk th tr){a b:Str}(sz:c.size<=20)(p:wfQ th (.join a b q r))(e:jy th c (.join a b) false q r=some q'):Eqv th tr (.pick c (.join a b q r)) q':=by
 obtain⟨ha,j,d,l,i,n⟩:=p;have o:=yh T i;rcases z1t e with h1 | h2 | ⟨_,_,h⟩
 ·have ok:=z2I (jv.mp h1);exact⟨rfl,((ze3 _ _ _).trans (Qj (List.filter _) (z4H λx f y _=>z8U ok (o x f)))).symm,⟨ha,j,d,l,⟨ok,sz,i⟩,n⟩,λs=>⟨s.1,s.2.1,wW (QL _ (qE _ _)) s.2.2⟩⟩
 ·have ok:=z2I (jv.mp h2);exact⟨rfl,((ze3 _ _ _).trans (Qj (List.filter _) (z3w λx f y _=>z6G d ok (o x f)))).symm,⟨ha,j,d,l,i,⟨ok,sz,n⟩⟩,λs=>⟨s.1,s.2.1,wW (QE _ (qE _ _)) s.2.2⟩⟩
 ·cases h
theorem zbb(T:TabOk th tr)(w:wfQ th (.pick c q))(e:ja th c q=some q'):Eqv th tr (.pick c q) q':=by
 obtain⟨f,sz,d⟩:=w;rcases z1h e with⟨a,b,rfl,rfl⟩ | e
 ·have h:a.size<=20/\b.size<=20:=by simp only [Cond.size]at sz;lia
  exact⟨rfl,w0U,⟨f.1,h.1,f.2,h.2,d⟩,λs=>s⟩
 cases q with
 | sort a r=>cases e;exact⟨rfl,(z5O _ _ _).symm,⟨d.1,f,sz,d.2⟩,λs=>s⟩
 | cols ns r=>
  cases e;refine⟨rfl,?_,⟨d.1,d.2.1,z2I λs m=>d.2.1 s (z1b f s m),sz,d.2.2⟩,λs=>s⟩
  show List.map _ (List.filter _ _)=List.filter _ (List.map _ _)
  rw [w0o]
  congr 1
  exact w0I λx _=>(zcp f).symm
 | both r s=>
  cases e;have i:c.ok (za th r):=f;refine⟨rfl,?_,⟨d.1,⟨i,sz,d.2.1⟩,⟨d.1 ▸ i,sz,d.2.2⟩⟩,λz=>⟨z.1,z.2.1,wW (Nat.add_le_add (qE _ _) (qE _ _)) z.2.2⟩⟩;simp only [rowsOf,za,w0w,d.1]
 | pair r s=>exact zb1 T sz f d e
 | join a b r s=>exact z9h T sz d e
 | _=>cases e
theorem z1W(T:TabOk th tr)(w:wfQ th q)(e:yc th q=some q'):Eqv th tr q q':=by
 rcases z20 e with⟨c,r,_,f⟩ | ⟨c,d,r,_⟩ | ⟨n,m,r⟩ | ⟨n,l,r⟩ | ⟨l,m,r⟩ | ⟨a,r⟩
 ·exact zbb T w f
 ·exact⟨rfl,ze3 _ _ _,⟨w.2.2.1,w.2.2.2.1,w.1,w.2.1,w.2.2.2.2⟩,λs=>s⟩
 ·have hn:0<=n:=w.1;have hm:0<=m:=w.2.1;refine⟨rfl,?_,⟨by lia,w.2.2⟩,λs=>s⟩
  show List.take _ _=List.take _ (List.take _ _)
  rw [List.take_take]
  congr 1
  lia
 ·exact⟨rfl,w0N,⟨w.2.1,w.2.2.1,w.1,w.2.2.2⟩,λs=>s⟩
 ·refine⟨rfl,?_,⟨w.1,λn m=>w.2.2.2.1 n (w.2.1 n m),w.2.2.2.2⟩,λs=>s⟩
  show List.map _ _=List.map _ (List.map _ _)
  rw [w11];refine w1h λx _=>w1h λn hn=> ?_
  have hm:n∈m:=w.2.1 n hn;have hl:=qX.mpr hm
  show _=(m.map _).getD (m.idxOf n) 0
  rw [ww (l:=m.map _),wQ,we hl,List.getElem_idxOf]
  rfl
 ·exact⟨rfl,(z7G _ _).symm,w.2,λs=>s⟩
def nf(th:Str->List Str)(q:Qn):Prop:=∀r∈post q,yc th r=none
theorem z2y(h:∀c r,q≠ .pick c r):beneath q=q:=by
 cases q with
 | pick c q=>exact absurd rfl (h c q)
 | _=>rfl
theorem z9J(h:z3e c=true):(ja th c q).isSome=true:=by
 cases c <;> first | rfl | cases h
theorem z6I{d:Cond}(h:yc th (.pick d r)=none):(ja th d (beneath r)).isSome=false:=by
 cases r with
 | pick e s=>
  unfold yc at h;dsimp only at h;split at h
  ·next a=>
   have:=z9J (th:=th) (q:= .pick e s) a;rw [h]at this;cases this
  ·split at h
   ·cases h
   ·exact Qi.mpr ‹_›
 | _=>
  have h:ja th d _=none:=h;rw [z2y (by intro c r e;cases e),h]
  rfl
noncomputable def zI:Qn->Nat->Qn->Qn
 | .table n,_,_=> .table n
 | .pick c _,_,k=> .pick c k
 | .cols ns _,_,k=> .cols ns k
 | .pair q r,i,k=>if i=0 then .pair k r else .pair q k
 | .join a b q r,i,k=>if i=0 then .join a b k r else .join a b q k
 | .both q r,i,k=>if i=0 then .both k r else .both q k
 | .first n _,_,k=> .first n k
 | .group a b n s _,_,k=> .group a b n s k
 | .sort a _,_,k=> .sort a k
theorem set_same{p k:Qn}(a:(kids p)[i]? =some k):zI p i k=p:=by
 cases p <;> rcases i with _ | _ | i <;> cases a <;> rfl
theorem z1T{p k:Qn}(h:i < (kids p).length):kids (zI p i k)=(kids p).set i k:=by
 cases p <;> rcases i with _ | _ | i <;> first | rfl | (simp only [kids,wP,Qo]at h;lia)
theorem set_set{p k l:Qn}(h:i < (kids p).length):zI (zI p i k) i l=zI p i l:=by
 cases p <;> rcases i with _ | _ | i <;> rfl
theorem z3m{p k:Qn}(h:i < (kids p).length):(kids (zI p i k))[i]? =some k:=by
 rw [z1T h,w0R h]
theorem Eqv.trans{s:Qn}(a:Eqv th tr q r)(b:Eqv th tr r s):Eqv th tr q s:=⟨b.h.trans a.h,b.r.trans a.r,b.wf,λz=>b.sub (a.sub z)⟩
def Eqv.refl(w:wfQ th q):Eqv th tr q q:=⟨rfl,rfl,w,λz=>z⟩
theorem z3l{p k l:Qn}(e:za th k=za th l):za th (zI p i k)=za th (zI p i l):=by
 cases p <;> rcases i with _ | i <;> simp [zI,za,e]
theorem z8n{p k:Qn}(w:wfQ th p)(b:(kids p)[i]? =some k)(E:Eqv th tr k k'):Eqv th tr p (zI p i k'):=by
 obtain⟨a,c,d,es⟩:=E;cases p <;> rcases i with _ | _ | i <;> cases b <;> simp only [wfQ]at w <;> refine⟨by simp [zI,za,a],by simp [zI,rowsOf,a,c],by simp_all [zI,wfQ],by simp_all [zI,z2h]⟩
theorem zel(e:yc th q=none)(h:∀k∈kids q,nf th k):nf th q:=λr m=>by
 rw [kP]at m;rcases wA.mp m with m | m
 ·obtain⟨k,a,m⟩:=List.mem_flatMap.mp m;exact h k a r m
 ·rw [wz.mp m];exact e
noncomputable def plug:List (Qn×Nat)->Qn->Qn
 | [],q=>q
 | (p,i) :: c,q=>plug c (zI p i q)
def kF(th:Str->List Str):List (Qn×Nat)->Qn->Prop
 | [],_=>True
 | (p,i) :: c,q=>i < (kids p).length/\za th (zI p i q)=za th p/\kF th c (zI p i q)
def z5b:∀{c:List (Qn×Nat)} {q q':Qn},za th q'=za th q->kF th c q->kF th c q'
 | [],_,_,_,_=>trivial
 | (p,i) :: c,_,_,e,h=>⟨h.1,(z3l e).trans h.2.1,z5b (z3l e) h.2.2⟩
theorem zaI{c:List (Qn×Nat)}{p k:Qn}(a:(kids p)[i]? =some k)(h:kF th c p):kF th ((p,i) :: c) k:=
 ⟨(wk.mp a).1,by rw [set_same a],by rw [set_same a];exact h⟩
theorem z9n{c:List (Qn×Nat)}{p k:Qn}(a:(kids p)[i]? =some k):plug ((p,i) :: c) k=plug c p:=by
 show plug c (zI p i k)=_
 rw [set_same a]
def z28:∀{c:List (Qn×Nat)} {q:Qn},kF th c q->wfQ th (plug c q)->wfQ th q
 | [],_,_,w=>w
 | (p,i) :: c,q,h,w=>z2U (z28 h.2.2 w) q (qA (z3m h.1))
theorem z6Y:∀{c:List (Qn×Nat)} {q q':Qn},kF th c q->wfQ th (plug c q)->Eqv th tr q q'->Eqv th tr (plug c q) (plug c q')
 | [],_,_,_,_,E=>E
 | (p,i) :: c,q,q',h,w,E=>by
  have a:=z8n (z28 h.2.2 w) (z3m h.1) E;rw [set_set h.1]at a;exact z6Y (c:=c) h.2.2 w a
noncomputable def wt:Qn->Nat
 | .table _=>1
 | .pick c q=>c.size * zv q + wt q
 | .cols _ q | .first _ q | .group _ _ _ _ q | .sort _ q=>wt q + 1
 | .pair q r | .join _ _ q r | .both q r=>wt q + wt r + 1
theorem z3Y(q:Qn):(post q).length<=wt q:=by
 induction q
 case' pick c q h=>have h2:1 * 1<=c.size * zv q:=w0y c.size_pos (yF q)
 all_goals
  simp only [post,wt,wg,wJ,Qo]
  lia
theorem z97{x y:Str}:yB th x y q r= .join x y q r\/yB th x y q r= .join y x q r:=by
 unfold yB;split <;> simp
theorem z8w(hm:∀x y,zv (mk x y)=zv x + zv y/\wt (mk x y)=wt x + wt y + 1)(e:jy th c mk b q r=some q'):zv q'=zv q + zv r/\wt q'<=c.size * (zv q + zv r) + (wt q + wt r + 1):=by
 rw [Qw];rcases z1t e with _ | _ | ⟨x,y⟩
 ·rw [(hm _ _).1,(hm _ _).2];exact⟨rfl,by simp only [wt];lia⟩
 ·rw [(hm _ _).1,(hm _ _).2];exact⟨rfl,by simp only [wt];lia⟩
 ·rcases z97 (th:=th) (x:=x) (y:=y) (q:=q) (r:=r)with h | h <;> rw [h] <;> exact⟨rfl,by simp only [wt];lia⟩
theorem zbM(e:ja th c q=some q'):zv q'=zv q/\wt q'<=c.size * zv q + wt q:=by
 rcases z1h e with⟨a,b,rfl,rfl⟩ | e
 ·refine⟨rfl,?_⟩;have:(Cond.an a b).size * zv q=a.size * zv q + b.size * zv q + zv q:=by
   show(a.size + b.size + 1) * _=_
   rw [w07,w07,w1i]
  rw [this];simp only [wt,zv]
  lia
 cases q with
 | pair r s=>exact z8w (mk:= .pair) (b:=true) (λ_ _=>⟨rfl,rfl⟩) e
 | join a b r s=>exact z8w (mk:= .join a b) (b:=false) (λ_ _=>⟨rfl,rfl⟩) e
 | _=>cases e <;> exact⟨rfl,by simp only [wt,zv,Qw];lia⟩
theorem z68(e:yc th q=some q'):zv q'=zv q/\wt q'<=wt q:=by
 rcases z20 e with⟨c,r,_,f⟩ | ⟨c,d,r,_⟩ | ⟨n,m,r⟩ | ⟨n,l,r⟩ | ⟨l,m,r⟩ | ⟨a,r⟩
 ·exact zbM f
 all_goals exact⟨rfl,by simp only [wt,zv];lia⟩
theorem zec{p k:Qn}(a:(kids p)[i]? =some k)(hl:zv k'=zv k)(h:wt k'<=wt k):zv (zI p i k')=zv p/\wt (zI p i k')<=wt p:=by
 cases p <;> rcases i with _ | _ | i <;> cases a <;> simp only [zI,zv,wt,hl,w0S,w1o,Nat.one_ne_zero,w0B] <;> lia
theorem z6L{k:Qn}:∀{l:List Qn},k∈l->(post k).length<=(l.flatMap post).length
 | a :: l,m=>by
  rw [w0h,wg];rcases wH.mp m with rfl | m
  ·exact Nat.le_add_right _ _
  ·exact wW (z6L m) (Nat.le_add_left _ _)
theorem zau{p k:Qn}(a:(kids p)[i]? =some k):(post k).length + 1<=(post p).length:=by
 rw [kP p,wg];exact Nat.succ_le_succ (z6L (qA a))
theorem z5c:∀{c:List (Qn×Nat)} {q:Qn},kF th c q->(post q).length + c.length<=(post (plug c q)).length
 | [],_,_=>wu _
 | (p,i) :: c,q,h=>by
  have a:=zau (z3m (k:=q) h.1);have b:=z5c (c:=c) h.2.2
  show _ + (c.length + 1)<=(post (plug c (zI p i q))).length
  lia
theorem z5k:∀{c:List (Qn×Nat)} {p q:Qn} {i:Nat},plug (c ++ [(p,i)]) q=zI p i (plug c q)
 | [],_,_,_=>rfl
 | (p',j) :: c,p,q,i=>z5k (c:=c) (q:=zI p' j q)
noncomputable def rest(p:Qn)(j:Nat):Nat:=((kids p).drop j).foldr (λk n=>3 * (post k).length + n) 0
theorem z8m{p k:Qn}(a:(kids p)[i]? =some k):rest p i=3 * (post k).length + rest p (i + 1):=by
 unfold rest;obtain⟨hi,e⟩:=wk.mp a;rw [List.drop_eq_getElem_cons hi,e]
 rfl
theorem z9N{p:Qn}:rest p (i + 1)<=rest p i:=by
 by_cases h:i < (kids p).length
 ·rw [z8m (we h)];lia
 ·unfold rest;rw [List.drop_eq_nil_of_le (by lia),List.drop_eq_nil_of_le (by lia)];exact wu _
theorem zcA{p:Qn}(h:i<=j):rest p j<=rest p i:=by
 induction h with
 | refl=>exact wu _
 | step _ a=>exact wW z9N a
theorem zay(k:Qn):rest k 0 + 3=3 * (post k).length:=by
 cases k <;> simp only [rest,kids,post,w1a,List.foldr_cons,List.foldr_nil,wg,wJ] <;> lia
theorem zbu{p k:Qn}(h:i < (kids p).length):rest (zI p i k) (i + 1)=rest p (i + 1):=by
 unfold rest;rw [z1T h,List.drop_set_of_lt (w05 i)]
noncomputable def budget(c:List (Qn×Nat)):Nat:=c.foldr (λx n=>2 + rest x.1 (x.2 + 1) + n) 0
theorem z4A{d1 d2 l1 l2:Nat}:d1 * l1 + d2 * l2<=(max d1 d2 + 1) * (l1 + l2):=by
 have b:d1 * l1<=max d1 d2 * l1:=QL _ (Nat.le_max_left _ _);have a:d2 * l2<=max d1 d2 * l2:=QL _ (Nat.le_max_right _ _);rw [w07,w1i,Qw]
 lia
theorem zeR(h:okQ th q):wt q<=(post q).length + 6 * (depth q * zv q):=by
 induction q
 case' pick c q i=>have:c.size * zv q<=6 * zv q:=QL _ h.2.1;have:=i h.2.2
 case' cols i=>have:=i h.2.2.2
 case' first i=>have:=i h.2
 case' group i=>have:=i h.2.2.2.2.2
 case' sort i=>have:=i h.2
 case' pair q r i j=>have:=i h.2.1;have:=j h.2.2;have:=z4A (d1:=depth q) (d2:=depth r) (l1:=zv q) (l2:=zv r)
 case' join q r i j=>have:=i h.2.2.2.1;have:=j h.2.2.2.2;have:=z4A (d1:=depth q) (d2:=depth r) (l1:=zv q) (l2:=zv r)
 case' both q r i j=>have:=i h.2.1;have:=j h.2.2;have:=z4A (d1:=depth q) (d2:=depth r) (l1:=zv q) (l2:=zv r)
 case' pair | join | both=>simp only [wt,post,depth,zv,wg,wJ]
 all_goals
  try simp only [wt,post,depth,zv,wg,wJ,Qo,w07,w1i,Qw]
  lia
noncomputable def held(th:Str->List Str)(d:Cond):Qn->Bool
 | .pair q r=>(ja th d (.pair q r)).isNone
 | .join a b q r=>(ja th d (.join a b q r)).isNone
 | _=>false
noncomputable def yl:Qn->Nat
 | .table _=>0
 | .cols _ q=>yl q + 1
 | .pick _ q | .sort _ q | .first _ q | .group _ _ _ _ q=>yl q
 | .pair q r | .join _ _ q r | .both q r=>yl q + yl r
noncomputable def nu(th:Str->List Str):Qn->Nat
 | .table _=>0
 | .pick c q=>(if held th c (beneath q)=true then 0 else c.size * wt q) + c.size * c.size * zv q + nu th q
 | .cols _ q | .sort _ q | .group _ _ _ _ q=>nu th q + 1
 | .first _ q=>nu th q + 1 + yl q
 | .pair q r | .join _ _ q r | .both q r=>nu th q + nu th r + 1
theorem z5j{mk':Qn->Qn->Qn}(h1:za th q=za th q')(h2:za th r=za th r'):(jy th c mk b q r).isNone=(jy th c mk' b q' r').isNone:=by
 unfold jy;rw [h1,h2];split
 ·rfl
 ·split
  ·rfl
  ·split <;> rfl
theorem z2b{d:Cond}(h1:za th q=za th q')(h2:za th r=za th r'):held th d (.pair q r)=held th d (.pair q' r'):=by
 cases d <;> first | rfl | exact z5j (mk:= .pair) (mk':= .pair) (b:=true) h1 h2
theorem z25{d:Cond}{a b:Str}(h1:za th q=za th q')(h2:za th r=za th r'):held th d (.join a b q r)=held th d (.join a b q' r'):=by
 cases d <;> first | rfl | exact z5j (mk:= .join a b) (mk':= .join a b) (b:=false) h1 h2
theorem zcc{d:Cond}{a b:Str}(h:held th d (.pair q r)=true):held th d (.join a b q r)=true:=by
 have go:(jy th d .pair true q r).isNone=true->(jy th d (.join a b) false q r).isNone=true:=λh=>by
  unfold jy at h ⊢;split
  ·next x=>rw [wY x]at h;cases h
  ·next x=>
   rw [wU x]at h;split
   ·next y=>rw [wY y]at h;cases h
   ·rfl
 cases d <;> first | cases h | exact go h
def Hld(th:Str->List Str)(q q':Qn):Prop:=∀d,held th d (beneath q)=true->held th d (beneath q')=true
theorem zb3{p k:Qn}{d:Cond}(h:za th k=za th k'):held th d (zI p i k)=held th d (zI p i k'):=by
 cases p with
 | pair q r=>
  by_cases e:i=0
  ·simp only [zI,e,w0S];exact z2b h rfl
  ·simp only [zI,e,w0B];exact z2b rfl h
 | join a b q r=>
  by_cases e:i=0
  ·simp only [zI,e,w0S];exact z25 h rfl
  ·simp only [zI,e,w0B];exact z25 rfl h
 | both q r=>by_cases e:i=0 <;> simp only [zI,e,w0S,w0B] <;> rfl
 | _=>rfl
theorem z9Y(t:Trn th q q'):Hld th q q':=by
 intro d h;rcases t with⟨c,r,_,f⟩ | ⟨c,e,r,_⟩ | ⟨n,m,r⟩ | ⟨n,l,r⟩ | ⟨l,m,r⟩ | ⟨a,r⟩
 ·rcases z1h f with⟨a,b,rfl,rfl⟩ | f
  ·exact h
  cases r with
  | pair r s=>
   rcases z1t f with h1 | h2 | ⟨x,y,_,h1,h2,rfl⟩
   ·exact(z2b (q:= .pick c r) (r:=s) (q':=r) (r':=s) rfl rfl).trans h
   ·exact(z2b (q:=r) (r:= .pick c s) (q':=r) (r':=s) rfl rfl).trans h
   ·unfold yB;split <;> exact zcc h
  | join a b r s=>
   rcases z1t (mk:= .join a b) (b:=false) f with h1 | h2 | ⟨_,_,h⟩
   ·exact(z25 (q:= .pick c r) (r:=s) (q':=r) (r':=s) rfl rfl).trans h
   ·exact(z25 (q:=r) (r:= .pick c s) (q':=r) (r':=s) rfl rfl).trans h
   ·cases h
  | sort | cols | both=>cases f;cases h
  | _=>cases f
 ·exact h
 all_goals cases h
theorem z6B(f:ja th c q=some q'):held th c q=false:=by
 cases q <;> first | rfl | (show Option.isNone _=false;rw [f];rfl)
theorem z7L(t:Trn th q q'):yl q'<=yl q:=by
 rcases t with⟨c,r,_,f⟩ | ⟨c,e,r,_⟩ | ⟨n,m,r⟩ | ⟨n,l,r⟩ | ⟨l,m,r⟩ | ⟨a,r⟩
 ·rcases z1h f with⟨a,b,rfl,rfl⟩ | f
  ·simp only [yl];lia
  cases r with
  | pair r s=>
   rcases z1t f with h1 | h2 | ⟨x,y,_,h1,h2,rfl⟩
   ·simp only [yl];lia
   ·simp only [yl];lia
   ·unfold yB;split <;> simp only [yl] <;> lia
  | join a b r s=>rcases z1t (mk:= .join a b) (b:=false) f with h1 | h2 | ⟨_,_,h⟩ <;> first | cases h | (simp only [yl];lia)
  | sort | cols | both=>cases f;simp only [yl];lia
  | _=>cases f
 all_goals simp only [yl];lia
theorem yH(c:Cond)(q:Qn):nu th (.pick c q)<=c.size * wt q + c.size * c.size * zv q + nu th q:=by
 simp only [nu];split <;> lia
theorem yR(h:held th c (beneath q)=false):nu th (.pick c q)=c.size * wt q + c.size * c.size * zv q + nu th q:=by
 simp only [nu,h];simp
theorem z8g(hm:∀x y,nu th (mk x y)=nu th x + nu th y + 1)(e:jy th c mk b q r=some q'):nu th q' < c.size * (wt q + wt r + 1) + c.size * c.size * (zv q + zv r) + (nu th q + nu th r + 1):=by
 have a:=yH (th:=th) c q;have p2:=yH (th:=th) c r;have hs:=c.size_pos;rw [Qw,Qw,Qw,w1L];rcases z1t e with _ | _ | ⟨x,y⟩
 ·rw [hm];lia
 ·rw [hm];lia
 ·unfold yB;split <;> simp only [nu] <;> lia
theorem zcT(D:∀r∈kids q,yc th r=none)(e:yc th q=some q'):nu th q' < nu th q:=by
 rcases z20 e with⟨c,r,_,f⟩ | ⟨c,d,r,h2⟩ | ⟨n,m,r⟩ | ⟨n,l,r⟩ | ⟨l,m,r⟩ | ⟨a,r⟩
 ·have hs:=c.size_pos;rcases z1h f with⟨a,b,rfl,rfl⟩ | g
  ·have B:∀q,held th (.an a b) q=false:=λq=>by cases q <;> rfl
   rw [yR (B _)];have t:=yH (th:=th) a (.pick b r);have p2:=yH (th:=th) b r;have F:(Cond.an a b).size=a.size + b.size + 1:=rfl;have j:wt (.pick b r)=b.size * zv r + wt r:=rfl;have o:zv (.pick b r)=zv r:=rfl;rw [j,o]at t;rw [F];have l1:=yF r;generalize a.size=x at *;generalize b.size=y at *;generalize zv r=l at *;generalize wt r=w at *;have C:x * (y * l + w)=x * y * l + x * w:=by rw [Qw,Nat.mul_assoc]
   have E:(x + y + 1) * w=x * w + y * w + w:=by rw [w07,w07,w1i]
   have A:(x + y + 1) * (x + y + 1) * l=x * x * l + y * y * l + x * y * l + (x * y * l + 2 * (x * l) + 2 * (y * l) + l):=by
    simp only [w07,Qw,w1i,w1L,Nat.mul_comm y x]
    lia
   rw [C]at t;rw [E,A]
   lia
  ·have h:=z6B f;cases r with
   | sort _ r | cols _ r=>
    cases g;rw [yR h];have:=yH (th:=th) c r;simp only [wt,zv,Qw,w1L]
    show nu th (.pick c r) + 1 < _ + (nu th r + 1)
    lia
   | both r s=>
    cases g;rw [yR h];have:=yH (th:=th) c r;have:=yH (th:=th) c s;simp only [wt,zv,Qw,w1L]
    show nu th (.pick c r) + nu th (.pick c s) + 1 < _ + (nu th r + nu th s + 1)
    lia
   | pair r s=>rw [yR h];exact z8g (mk:= .pair) (b:=true) (λ_ _=>rfl) g
   | join a b r s=>rw [yR h];exact z8g (mk:= .join a b) (b:=false) (λ_ _=>rfl) g
   | _=>cases g
 ·have st:=z6I (D _ (wz.mpr rfl));have hc:=c.size_pos;have hd:=d.size_pos;have l1:=yF r;have i:held th d (beneath r)=true/\held th c (beneath r)=false:=by
   generalize beneath r=x at st h2;obtain⟨y,p⟩:=Option.isSome_iff_exists.mp h2;refine⟨?_,z6B p⟩;have u:(ja th d x).isNone=true:=by
    cases hz:ja th d x with
    | none=>rfl
    | some z=>rw [hz]at st;cases st
   cases x with
   | pair | join=>exact u
   | sort | cols | both=>cases d <;> cases u
   | _=>
    rcases z1h p with⟨a,b,rfl,rfl⟩ | g
    ·cases e
    ·cases g
  have j:nu th (.pick d (.pick c r))=d.size * d.size * zv r + (c.size * wt r + c.size * c.size * zv r + nu th r):=by
   rw [<-yR i.2]
   show(if held th d (beneath r)=true then 0 else _) + _ + _=_
   rw [wY i.1,w1o]
   rfl
  have o:nu th (.pick c (.pick d r))=c.size * (d.size * zv r + wt r) + c.size * c.size * zv r + (d.size * d.size * zv r + nu th r):=by
   rw [yR (q:= .pick d r) i.2]
   congr 1
   show(if held th d (beneath r)=true then 0 else _) + _ + _=_
   rw [wY i.1,w1o]
  have z:1 * (1 * 1)<=c.size * (d.size * zv r):=w0y hc (w0y hd l1);rw [j,o,Qw]
  lia
 all_goals
  simp only [nu,yl]
  lia
structure Dn(th:Str->List Str)(q q':Qn):Prop where
 nu:nu th q' < nu th q
 wt:wt q'<=wt q
 lv:zv q'=zv q
 nc:yl q'<=yl q
 hl:Hld th q q'
 hd:za th q'=za th q
theorem z9t{p k:Qn}(a:(kids p)[i]? =some k)(h:yl k'<=yl k):yl (zI p i k')<=yl p:=by
 cases p <;> rcases i with _ | _ | i <;> cases a <;> simp only [zI,yl,w0S,w1o,Nat.one_ne_zero,w0B] <;> lia
theorem zdN{p k:Qn}(b:(kids p)[i]? =some k)(h:yl k'<=yl k)(n:nu th k' < nu th k)(a:∀c:Cond,nu th (.pick c k') < nu th (.pick c k)):nu th (zI p i k') < nu th p:=by
 cases p with
 | pick c q=>
  rcases i with _ | i <;> cases b
  exact a c
 | _=>
  clear a;rcases i with _ | _ | i <;> cases b <;> simp only [zI,nu,w0S,w1o,Nat.one_ne_zero,w0B] <;> lia
theorem zcL{p k:Qn}(f:(kids p)[i]? =some k)(hd:za th k'=za th k)(hl:Hld th k k'):Hld th p (zI p i k'):=by
 intro d h;have:=zb3 (p:=p) (i:=i) (d:=d) hd.symm;rw [set_same f]at this;cases p with
 | pick c q=>
  rcases i with _ | i <;> cases f
  exact hl d h
 | pair q r | both q r=>
  clear f hl;by_cases e:i=0 <;> simp only [zI,e,w0S,w0B]at this ⊢ <;> exact this ▸ h
 | join a b q r=>
  clear f hl;by_cases e:i=0 <;> simp only [zI,e,w0S,w0B]at this ⊢ <;> exact this ▸ h
 | _=>exact this ▸ h
theorem Dn.set{p k:Qn}(a:(kids p)[i]? =some k)(D:Dn th k k'):Dn th p (zI p i k'):=by
 have w:=zec a D.lv D.wt;have hd:za th (zI p i k')=za th p:=(z3l D.hd).trans (by rw [set_same a]);refine⟨zdN a D.nc D.nu λc=> ?_,w.2,w.1,z9t a D.nc,zcL a D.hd D.hl,hd⟩;have m:c.size * _root_.Q12.wt k'<=c.size * _root_.Q12.wt k:=QE _ D.wt;have b:=D.nu;simp only [Q12.nu,D.lv];by_cases e:held th c (beneath k)=true
 ·rw [wY e,wY (D.hl c e)];lia
 ·rw [wU e];split <;> lia
theorem Dn.plug:∀{c:List (Qn×Nat)} {q q':Qn},kF th c q->Dn th q q'->Dn th (plug c q) (plug c q')
 | [],_,_,_,D=>D
 | (p,i) :: c,q,q',h,D=>by
  have E:=D.set (z3m (k:=q) h.1);rw [set_set h.1]at E;exact Dn.plug (c:=c) h.2.2 E
def z8R(T:TabOk th tr)(w:wfQ th q)(a:∀r∈kids q,yc th r=none)(e:yc th q=some q'):Dn th q q':=
 ⟨zcT a e,(z68 e).2,(z68 e).1,z7L (z20 e),z9Y (z20 e),(z1W T w e).h⟩
theorem zbt(q:Qn):yl q<=wt q:=by
 induction q <;> simp only [yl,wt] <;> lia
theorem z6c(a b:Nat):a * a + 2 * (a * b) + b * b=(a + b) * (a + b):=by
 rw [w07,Qw,Qw,Nat.mul_comm b a]
 lia
theorem zcZ(q:Qn):nu th q<=wt q * wt q:=by
 induction q with
 | table n=>exact Q6 _
 | pick c q a=>
  have h1:=yH (th:=th) c q;have l1:=yF q
  show _<=(c.size * zv q + wt q) * (c.size * zv q + wt q)
  rw [<-z6c];have f:c.size * wt q * 1<=c.size * wt q * zv q:=QE _ l1;have b:c.size * zv q * wt q=c.size * wt q * zv q:=Nat.mul_right_comm _ _ _;have e:c.size * c.size * zv q * 1<=c.size * c.size * zv q * zv q:=QE _ l1;have d:c.size * zv q * (c.size * zv q)=c.size * c.size * zv q * zv q:=by
   rw [Nat.mul_assoc,Nat.mul_left_comm (zv q),<-Nat.mul_assoc,<-Nat.mul_assoc]
  rw [b,d]
  lia
 | first n q a=>
  have:=zbt q;simp only [nu,wt,<-z6c]
  lia
 | cols _ q a | sort _ q a | group _ _ _ _ q a=>
  simp only [nu,wt,<-z6c]
  lia
 | pair q r i j | join _ _ q r i j | both q r i j=>
  simp only [nu,wt,<-z6c]
  lia
def One(th:Str->List Str)(w w':Qn):Prop:=∃c r r',kF th c r/\w=plug c r/\w'=plug c r'/\yc th r=some r'/\∀k∈kids r,nf th k
theorem One.eqv(T:TabOk th tr){w:Qn}(wf:wfQ th w)(o:One th w w'):Eqv th tr w w':=by
 obtain⟨c,r,r',h,rfl,rfl,e,_⟩:=o;exact z6Y h wf (z1W T (z28 h wf) e)
theorem One.dn(T:TabOk th tr){w:Qn}(wf:wfQ th w)(o:One th w w'):Dn th w w':=by
 obtain⟨c,r,r',h,rfl,rfl,e,a⟩:=o;exact Dn.plug h (z8R T (z28 h wf) (λk m=>a k m k (z3s k)) e)
def kO(H:Hp):Qn->List V->Prop
 | .table n,xs=>xs= [.str "table",.str n]
 | .pick c _,xs=>∃x,xs= [.str "pick",x]/\zG H c x
 | .cols ns _,xs=>∃x,xs= [.str "cols",.ref x]/\H x=some (.tup (ns.map V.str))
 | .pair _ _,xs=>xs= [.str "pair"]
 | .join a b _ _,xs=>xs= [.str "join",.str a,.str b]
 | .both _ _,xs=>xs= [.str "both"]
 | .first n _,xs=>xs= [.str "first",.int n]
 | .group a b n s _,xs=>xs= [.str "group",.str a,.str b,.str n,.str s]
 | .sort a _,xs=>xs= [.str "sort",.str a]
noncomputable def jF(ah hd wl:Addr)(qv:V)(b:Bool):List (Str×V):= [("ahead",.ref ah),("heads",.ref hd),("within",.ref wl),("question",qv),("settled",.bl b)]
structure NodeAt(th:Str->List Str)(C:Addr)(H:Hp)(q:Qn)(a:Addr)(ws:List V)(ah hd wl dx:Addr)(qv:V)(b:Bool)(xs:List V):Prop where
 me:H a=some (.ins C dx (jF ah hd wl qv b))
 ahd:H ah=some (.tup xs)
 ahx:kO H q xs
 hds:H hd=some (.lst ((za th q).map V.str))
 wit:H wl=some (.lst ws)
 qst:QAt H q qv
 set:b=true->nf th q
def Node(th:Str->List Str)(C:Addr)(H:Hp)(q:Qn)(v:V)(ws:List V):Prop:=∃a ah hd wl dx qv b xs,v= .ref a/\NodeAt th C H q a ws ah hd wl dx qv b xs
def jR(th:Str->List Str)(C:Addr)(H:Hp):Qn->V->Prop
 | .table n,v=>Node th C H (.table n) v []
 | .pick c q,v=>∃w,Node th C H (.pick c q) v [w]/\jR th C H q w
 | .cols ns q,v=>∃w,Node th C H (.cols ns q) v [w]/\jR th C H q w
 | .pair q r,v=>∃w u,Node th C H (.pair q r) v [w,u]/\jR th C H q w/\jR th C H r u
 | .join a b q r,v=>∃w u,Node th C H (.join a b q r) v [w,u]/\jR th C H q w/\jR th C H r u
 | .both q r,v=>∃w u,Node th C H (.both q r) v [w,u]/\jR th C H q w/\jR th C H r u
 | .first n q,v=>∃w,Node th C H (.first n q) v [w]/\jR th C H q w
 | .group a b n s q,v=>∃w,Node th C H (.group a b n s q) v [w]/\jR th C H q w
 | .sort a q,v=>∃w,Node th C H (.sort a q) v [w]/\jR th C H q w
def jS(th:Str->List Str)(C:Addr)(H:Hp):List Qn->List V->Prop
 | [],vs=>vs= []
 | q :: qs,vs=>∃v ws,vs=v :: ws/\jR th C H q v/\jS th C H qs ws
theorem zU{v:V}:jR th C H q v↔∃ws,Node th C H q v ws/\jS th C H (kids q) ws:=by
 have one:∀{q r:Qn},kids q= [r]->((∃w,Node th C H q v [w]/\jR th C H r w)↔∃ws,Node th C H q v ws/\jS th C H (kids q) ws):=λ{q r} d=>by
  rw [d];constructor
  ·rintro⟨w,h1,h2⟩;exact⟨[w],h1,w,[],rfl,h2,rfl⟩
  ·rintro⟨ws,h1,w,us,rfl,h2,rfl⟩;exact⟨w,h1,h2⟩
 have two:∀{q r t:Qn},kids q= [r,t]->((∃w u,Node th C H q v [w,u]/\jR th C H r w/\jR th C H t u)↔∃ws,Node th C H q v ws/\jS th C H (kids q) ws):=λ{q r t} d=>by
  rw [d];constructor
  ·rintro⟨w,u,h1,h2,e⟩;exact⟨[w,u],h1,w,[u],rfl,h2,u,[],rfl,e,rfl⟩
  ·rintro⟨ws,h1,w,us,rfl,h2,u,vs,rfl,e,rfl⟩;exact⟨w,u,h1,h2,e⟩
 cases q with
 | table n=>
  constructor
  ·intro h;exact⟨[],h,rfl⟩
  ·rintro⟨ws,h,rfl⟩;exact h
 | pick c q=>exact one rfl
 | cols ns q=>exact one rfl
 | first n q=>exact one rfl
 | group a b n s q=>exact one rfl
 | sort a q=>exact one rfl
 | pair q r=>exact two rfl
 | join a b q r=>exact two rfl
 | both q r=>exact two rfl
theorem jS.len:∀{qs:List Qn} {vs:List V},jS th C H qs vs->vs.length=qs.length
 | [],_,h=>by rw [show _= []from h];rfl
 | _ :: qs,_,⟨v,ws,e,_,h⟩=>by rw [e,wP,wP,h.len]
theorem jS.at:∀{qs:List Qn} {vs:List V} {i:Nat} {q:Qn},jS th C H qs vs->qs[i]? =some q->∃v,vs[i]? =some v/\jR th C H q v
 | q :: qs,_,0,_,⟨v,us,a,h1,h2⟩,e=>by cases e;exact⟨v,by rw [a];rfl,h1⟩
 | q :: qs,_,i + 1,_,⟨v,us,a,h1,h2⟩,e=>by
  obtain⟨u,b,z⟩:=h2.at (i:=i) (by simpa using e);exact⟨u,by rw [a];simpa using b,z⟩
theorem jS.set:∀{qs:List Qn} {vs:List V} {i:Nat} {q:Qn} {v:V},jS th C H qs vs->jR th C H q v->jS th C H (qs.set i q) (vs.set i v)
 | [],_,_,_,_,h,_=>by rw [show _= []from h];rfl
 | r :: qs,_,0,_,v,⟨u,us,a,h1,h2⟩,h=>by subst a;exact⟨v,us,rfl,h,h2⟩
 | r :: qs,_,i + 1,_,v,⟨u,us,a,h1,h2⟩,h=>by subst a;exact⟨u,us.set i v,rfl,h1,h2.set h⟩
structure Ev(th:Str->List Str)(C:Addr)(H H':Hp):Prop where
 t:∀b o,H b=some o->(∀ps,o≠ .tbl ps)->(∀D dx fs,o≠ .ins D dx fs)->H' b=some o
 n:∀a dx ah hd wl qv b,H a=some (.ins C dx (jF ah hd wl qv b))->∃b',H' a=some (.ins C dx (jF ah hd wl qv b'))/\(b'=b\/(b'=true/\∀q ws xs,NodeAt th C H q a ws ah hd wl dx qv b xs->nf th q))
theorem Ev.tup{b:Addr}{xs:List V}(e:Ev th C H H')(h:H b=some (.tup xs)):H' b=some (.tup xs):=e.t b _ h (λ_ z=>by cases z) λ_ _ _ z=>by cases z
theorem Ev.lst{b:Addr}{xs:List V}(e:Ev th C H H')(h:H b=some (.lst xs)):H' b=some (.lst xs):=e.t b _ h (λ_ z=>by cases z) λ_ _ _ z=>by cases z
theorem Ev.of(h:Nt H H'):Ev th C H H':=⟨λb o e n _=>h b o e n,λa dx ah hd wl qv b e=>⟨b,h a _ e (λ_ z=>by cases z),.inl rfl⟩⟩
theorem kO.mono(t:∀b xs,H b=some (.tup xs)->H' b=some (.tup xs))(h:kO H q xs):kO H' q xs:=by
 cases q with
 | pick c q=>obtain⟨x,e,h⟩:=h;exact⟨x,e,h.mono t⟩
 | cols ns q=>obtain⟨x,e,h⟩:=h;exact⟨x,e,t _ _ h⟩
 | _=>exact h
theorem Node.ev{v:V}(e:Ev th C H H')(h:Node th C H q v ws):Node th C H' q v ws:=by
 obtain⟨a,ah,hd,wl,dx,qv,b,xs,rfl,h⟩:=h;obtain⟨b',h1,h2⟩:=e.n a dx ah hd wl qv b h.me;have c:∀b xs,H b=some (.tup xs)->H' b=some (.tup xs):=λb xs z=>e.tup z
 refine⟨a,ah,hd,wl,dx,qv,b',xs,rfl,h1,e.tup h.ahd,h.ahx.mono c,e.lst h.hds,e.lst h.wit,h.qst.mono c,λz=> ?_⟩;rcases h2 with rfl | ⟨_,h2⟩
 ·exact h.set z
 ·exact h2 q ws xs h
theorem jR.ev(e:Ev th C H H'):∀{q:Qn} {v:V},jR th C H q v->jR th C H' q v
 | .table n,_,h=>Node.ev e h
 | .pick c q,_,⟨w,h1,h2⟩=>⟨w,h1.ev e,h2.ev e⟩
 | .cols ns q,_,⟨w,h1,h2⟩=>⟨w,h1.ev e,h2.ev e⟩
 | .pair q r,_,⟨w,u,h1,h2,d⟩=>⟨w,u,h1.ev e,h2.ev e,d.ev e⟩
 | .join a b q r,_,⟨w,u,h1,h2,d⟩=>⟨w,u,h1.ev e,h2.ev e,d.ev e⟩
 | .both q r,_,⟨w,u,h1,h2,d⟩=>⟨w,u,h1.ev e,h2.ev e,d.ev e⟩
 | .first n q,_,⟨w,h1,h2⟩=>⟨w,h1.ev e,h2.ev e⟩
 | .group a b n s q,_,⟨w,h1,h2⟩=>⟨w,h1.ev e,h2.ev e⟩
 | .sort a q,_,⟨w,h1,h2⟩=>⟨w,h1.ev e,h2.ev e⟩
theorem jS.ev(e:Ev th C H H'):∀{qs:List Qn} {vs:List V},jS th C H qs vs->jS th C H' qs vs
 | [],_,h=>h
 | _ :: _,_,⟨v,ws,a,h1,h2⟩=>⟨v,ws,a,h1.ev e,h2.ev e⟩
theorem zdV{kv:List V}(h:kO H q xs)(f:yv H (kids q) kv)(hp:H p=some (.tup (xs ++ kv))):QAt H q (.ref p):=by
 have one:∀{r:Qn},yv H [r] kv->∃y,kv= [y]/\QAt H r y:=λ⟨v,ws,e,h,z⟩=>⟨v,by rw [e,show ws= []from z],h⟩
 have two:∀{r t:Qn},yv H [r,t] kv->∃x y,kv= [x,y]/\QAt H r x/\QAt H t y:=λ⟨v,ws,e,h,u,us,j,h2,z⟩=>⟨v,u,by rw [e,j,show us= []from z],h,h2⟩
 cases q with
 | table n=>
  rw [show kv= []from f,show xs=_ from h]at hp;exact⟨p,rfl,hp⟩
 | pick c q=>
  obtain⟨y,rfl,d⟩:=one f;obtain⟨x,rfl,i⟩:=h;exact⟨p,x,y,rfl,hp,i,d⟩
 | cols ns q=>
  obtain⟨y,rfl,d⟩:=one f;obtain⟨x,rfl,i⟩:=h;exact⟨p,x,y,rfl,hp,i,d⟩
 | first n q=>
  obtain⟨y,rfl,d⟩:=one f;rw [show xs=_ from h]at hp;exact⟨p,y,rfl,hp,d⟩
 | group a b n s q=>
  obtain⟨y,rfl,d⟩:=one f;rw [show xs=_ from h]at hp;exact⟨p,y,rfl,hp,d⟩
 | sort a q=>
  obtain⟨y,rfl,d⟩:=one f;rw [show xs=_ from h]at hp;exact⟨p,y,rfl,hp,d⟩
 | pair q r=>
  obtain⟨x,y,rfl,i,d⟩:=two f;rw [show xs=_ from h]at hp;exact⟨p,x,y,rfl,hp,i,d⟩
 | join a b q r=>
  obtain⟨x,y,rfl,i,d⟩:=two f;rw [show xs=_ from h]at hp;exact⟨p,x,y,rfl,hp,i,d⟩
 | both q r=>
  obtain⟨x,y,rfl,i,d⟩:=two f;rw [show xs=_ from h]at hp;exact⟨p,x,y,rfl,hp,i,d⟩
noncomputable def z5D(st:Stmt)(j:Nat):Stmt:=match st with
 | .ClassDef _ _ _ body _ _ _ _ _ _ _=>body.getD j (.Pass ⟨0,0,0,0⟩)
 | _=> .Pass ⟨0,0,0,0⟩
noncomputable abbrev z0r:Stmt:=z5D (top 10) 0
noncomputable abbrev z00:Stmt:=z5D (top 35) 0
noncomputable abbrev yQ:Stmt:=z5D (top 35) 1
noncomputable abbrev kJ:Stmt:=z5D (top 35) 2
noncomputable abbrev yL:Stmt:=z5D (top 35) 3
noncomputable abbrev kg:Stmt:=z5D (top 35) 4
structure PC(K:W.Frag)(C:Addr):Prop where
 cls:Cls K C
 ah:NoAttr K C "ahead"
 hd:NoAttr K C "heads"
 wi:NoAttr K C "within"
 qu:NoAttr K C "question"
 se:NoAttr K C "settled"
theorem zeF{v:V}:yK "ahead" v []=([("ahead",v)]:List (Str×V)):=rfl
theorem put2{v x:V}:yK "heads" v ([("ahead",x)]:List (Str×V))=([("ahead",x),("heads",v)]:List (Str×V)):=by simp [yK,show("ahead":Str)≠"heads" by decide +kernel]
theorem put3{v x:V}:yK "within" v ([("ahead",x),("heads",y)]:List (Str×V))=([("ahead",x),("heads",y),("within",v)]:List (Str×V)):=by simp [yK,show("ahead":Str)≠"within" by decide +kernel,show("heads":Str)≠"within" by decide +kernel]
theorem zeK{v x z:V}:yK "question" v ([("ahead",x),("heads",y),("within",z)]:List (Str×V))=([("ahead",x),("heads",y),("within",z),("question",v)]:List (Str×V)):=by
 simp [yK,show("ahead":Str)≠"question" by decide +kernel,show("heads":Str)≠"question" by decide +kernel,show("within":Str)≠"question" by decide +kernel]
theorem zfe{v x z:V}:yK "settled" v ([("ahead",x),("heads",y),("within",z),("question",u)]:List (Str×V))=([("ahead",x),("heads",y),("within",z),("question",u),("settled",v)]:List (Str×V)):=by
 simp [yK,show("ahead":Str)≠"settled" by decide +kernel,show("heads":Str)≠"settled" by decide +kernel,show("within":Str)≠"settled" by decide +kernel,show("question":Str)≠"settled" by decide +kernel]
theorem zfm{hd:Addr}:yK "settled" (.bl true) (jF ah hd wl qv b)=jF ah hd wl qv true:=by
 simp [yK,jF,show("ahead":Str)≠"settled" by decide +kernel,show("heads":Str)≠"settled" by decide +kernel,show("within":Str)≠"settled" by decide +kernel,show("question":Str)≠"settled" by decide +kernel]
def zcw{hd:Addr}:(jF ah hd wl qv b).lookup ("ahead":Str)=some (V.ref ah):=rfl
theorem zbY{hd:Addr}:(jF ah hd wl qv b).lookup ("heads":Str)=some (V.ref hd):=by rfl
theorem zc2{hd:Addr}:(jF ah hd wl qv b).lookup ("within":Str)=some (V.ref wl):=by rfl
theorem z8l{hd:Addr}:(jF ah hd wl qv b).lookup ("question":Str)=some qv:=by rfl
theorem zcQ{hd:Addr}:(jF ah hd wl qv b).lookup ("settled":Str)=some (V.bl b):=by rfl
def yJ{a hd:Addr}(d:PC K C)(h:H a=some (.ins C dx (jF ah hd wl qv b)))(q:Q (.ref ah)):∃a' c aj fs v,V.ref a= .ref a'/\H a'=some (.ins c aj fs)/\Cls K c/\NoAttr K c "ahead"/\fs.lookup ("ahead":Str)=some v/\Q v:=⟨a,C,dx,_,_,rfl,h,d.cls,d.ah,zcw,q⟩
def z0Q{a hd:Addr}(d:PC K C)(h:H a=some (.ins C dx (jF ah hd wl qv b)))(q:Q (.ref hd)):∃a' c aj fs v,V.ref a= .ref a'/\H a'=some (.ins c aj fs)/\Cls K c/\NoAttr K c "heads"/\fs.lookup ("heads":Str)=some v/\Q v:=⟨a,C,dx,_,_,rfl,h,d.cls,d.hd,zbY,q⟩
def yW{a hd:Addr}(d:PC K C)(h:H a=some (.ins C dx (jF ah hd wl qv b)))(q:Q (.ref wl)):∃a' c aj fs v,V.ref a= .ref a'/\H a'=some (.ins c aj fs)/\Cls K c/\NoAttr K c "within"/\fs.lookup ("within":Str)=some v/\Q v:=⟨a,C,dx,_,_,rfl,h,d.cls,d.wi,zc2,q⟩
def zd2{a hd:Addr}(d:PC K C)(h:H a=some (.ins C dx (jF ah hd wl qv b)))(q:Q (qv)):∃a' c aj fs v,V.ref a= .ref a'/\H a'=some (.ins c aj fs)/\Cls K c/\NoAttr K c "question"/\fs.lookup ("question":Str)=some v/\Q v:=⟨a,C,dx,_,_,rfl,h,d.cls,d.qu,z8l,q⟩
def zba{a hd:Addr}(d:PC K C)(h:H a=some (.ins C dx (jF ah hd wl qv b)))(q:Q (.bl b)):∃a' c aj fs v,V.ref a= .ref a'/\H a'=some (.ins c aj fs)/\Cls K c/\NoAttr K c "settled"/\fs.lookup ("settled":Str)=some v/\Q v:=⟨a,C,dx,_,_,rfl,h,d.cls,d.se,zcQ,q⟩
inductive spPInit (K:W.Frag) (C:Addr) (vs:List V) (H:Hp) (Q:VK) (E:XK):Prop
 | mk:∀th q x dx ah hd wl xs ws,vs= [.ref x,.ref ah,.ref hd,.ref wl]->H x=some (.ins C dx [])->H ah=some (.tup xs)->kO H q xs->H wl=some (.lst ws)->jS th C H (kids q) ws->(∀(qv:V) (H':Hp),(∀b o,b≠x->H b=some o->H' b=some o)->H' x=some (.ins C dx (jF ah hd wl qv false))->QAt H' q qv->Q .non H')->spPInit K C vs H Q E
theorem z4M(h:kO H q xs):xs≠ []/\xs.length<=5:=by
 cases q with
 | pick c q=>obtain⟨x,e,h⟩:=h;rw [e];simp
 | cols ns q=>obtain⟨x,e,h⟩:=h;rw [e];simp
 | _=>rw [show xs=_ from h];simp
theorem z51:FnScope ["self","ahead","heads","within"] ["self","ahead","heads","within"] (zm z0r):=by walk_at "s"
theorem z4R(F:Fun K "__init__" "Place.__init__" z0r f fd)(T:Txt K mg)(c:PC K C):FnOk P w K mg base CX0 1 f fd ["self","ahead","heads","within"] (spPInit K C):=by
 refine F.okB z51 (λvs H Q E h=> ?_) (λvs H Q E h=> ?_)
 ·obtain⟨th,q,x,dx,ah,hd,wl,xs,ws,rfl,_⟩:=h
  rfl
 obtain⟨th,q,x,dx,ah,hd,wl,xs,ws,rfl,hx,ha,t,hw,lJ,fin⟩:=h;intro ad A outer sh hr;refine⟨_,(zc (z0y v0 v1 rfl)
  (zc (z0y v0 v2 rfl)
  (zc (z0y v0 v3 rfl)
  (zc (z0y v0 (zr z3Z v1 (jg z0T rfl T.tuple Qg (z1u (yI rfl (CompSc.of (sx:=zm z0r) (NX:= ["self","ahead","heads","within"]) (fr:= []) (ix:= []) rfl rfl (by decide +kernel)) (jb v3) (λ_ _ _ _ _ _=>jZ) (λ_ _ _ _ _ _=>(z3U (K:=K) rfl v0 rfl))) zb))) rfl)
  (zg (z0y v0 jD rfl)))))),?_⟩
 generalize hK0:K=K1;generalize hK1:C=C1
 revert C1
 revert K1
 refine z0i (by walk_at "cl") ?_;refine !(!⟨x,C,dx,!⟨hx,c.cls,c.ah,by show 0 < 1000;decide,?_⟩⟩);refine !(!⟨x,C,dx,!⟨zl,c.cls,c.hd,by show 1 < 1000;decide,?_⟩⟩);refine !(!⟨x,C,dx,!⟨zl,c.cls,c.wi,by rw [zeF,put2];show 2 < 1000;decide,?_⟩⟩);rw [zeF,put2,put3];generalize hH3:upd (upd (upd H x _) x _) x _=H3;have Z:∀b o,b≠x->H b=some o->H3 b=some o:=λb o d e=>by
  rw [<-hH3,zn d,zn d,zn d];exact e
 have x3:H3 x=some (.ins C dx [("ahead",.ref ah),("heads",.ref hd),("within",.ref wl)]):=by rw [<-hH3,zl]
 have s:Ev th C H H3:=⟨λb o e _ n=>Z b o (λz=>by rw [z,hx]at e;cases e;exact n _ _ _ rfl) e,λa aj cX bg bL qv b e=>⟨b,Z a _ (λz=>by rw [z,hx]at e;cases e) e,.inl rfl⟩⟩;have ge:=s.lst hw;have uf:=s.tup ha;have cI:=lJ.ev s;have hl:=lJ.len;have lk:=z2T q;have close:∀(qv:V) (l:Hp),zz H3 l->QAt l q qv->zdn K (λσ H Q=>Q (.ref x) H) (λσ H Q=>Q qv H) "question" {nx:=λσ H=>zdn K (λσ H Q=>Q (.ref x) H) (λσ H Q=>Q (.bl false) H) "settled" {nx:=λ_ H'=>Q .non H',rt:=Q} σ H,rt:=Q} [] l:=λqv l s6 h6=>by
  have r:=s6 _ _ x3;refine⟨x,C,dx,!⟨r,c.cls,c.qu,by show 3 < 1000;decide,?_⟩⟩;refine⟨x,C,dx,!⟨zl,c.cls,c.se,by rw [zeK];show 4 < 1000;decide,?_⟩⟩;refine fin qv _ (λb o d e=>by rw [zn d,zn d];exact s6 _ _ (Z b o d e)) (by rw [zl,zeK,zfe];rfl) (h6.mono λb ys z=> ?_);have d:b≠x:=λe=>by rw [e,r]at z;cases z
  rw [zn d,zn d];exact z
 refine !(!⟨wl,rfl,⟨_,SqL.of ge⟩,?_⟩);refine jH (xs:=ws) (λi ys H'=>H'=H3/\ys.length=i/\yv H3 ((kids q).take i) ys) ⟨rfl,rfl,by rw [w0A];rfl⟩ ?_ ?_ ?_
 ·rintro i ys H' hi ⟨rfl,u,_⟩;exact⟨SqL.of ge,zK (by lia)⟩
 ·rintro i y ys H' hi ⟨rfl,u,hq⟩;have cy:i < (kids q).length:=by rw [<-hl];exact(wk.mp hi).1
  obtain⟨v,hv,pv⟩:=cI.at (we cy);rw [hi]at hv;cases hv;obtain⟨us,⟨a,cX,bg,bL,aj,qv,b,ci,rfl,nd⟩,_⟩:=zU.mp pv;refine !⟨a,C,aj,_,qv,rfl,nd.me,c.cls,c.qu,z8l,rfl,by rw [wg,u];rfl,?_⟩;rw [q5,we cy];exact hq.app ⟨qv,[],rfl,nd.qst,rfl⟩
 ·rintro ys H' ⟨rfl,u,hq⟩ np aA;rw [hl,qH]at hq;refine ze (upd _ np _) rfl aA λH4 n4 x4=> ?_
  refine⟨np,ys,rfl,.inl ⟨SqL.of x4,λtp aF=> ?_⟩⟩;refine ze (upd _ tp _) rfl aF λH5 n5 x5=> ?_
  have j:=n4.trans n5;have lK:kO H5 q xs:=(t.mono λb xs z=>s.tup z).mono λb xs z=>j _ _ z
  refine⟨ah,tp,xs,ys,rfl,rfl,SqT.of (j _ _ uf),SqT.of x5,?_,?_,λe=> ?_,λne p hp=> ?_⟩
  ·exact(z4M t).1
  ·have:=(z4M t).2;exact je (by lia)
  ·subst e;have A2:QAt H5 q (.ref ah):=zdV lK (hq.same j) (by rw [Q3];exact j _ _ uf);obtain⟨O,S,aj,h9,G,Y,L,B,U,X,J,I,pX,f1,f2,N,M,D,f6⟩:=close _ _ j A2;exact !⟨O,S,aj,h9,G,Y,L,B,U,!⟨X,J,I,pX,f1,f2,N,M,D,f6⟩⟩
  ·refine ze (upd _ p _) rfl hp λl R r=> ?_
   have A3:QAt l q (.ref p):=zdV (lK.mono λb xs z=>R _ _ z) (hq.same (j.trans R)) r;obtain⟨O,S,aj,h9,G,Y,L,B,U,X,J,I,pX,f1,f2,N,M,D,f6⟩:=close _ _ (j.trans R) A3;exact !⟨O,S,aj,h9,G,Y,L,B,U,!⟨X,J,I,pX,f1,f2,N,M,D,f6⟩⟩
theorem jI{Q:VK}{hd:Addr}(ha:H ah=some (.tup xs))(d:kO H q xs)(j:H hd=some (.lst ((za th q).map V.str)))(c:H wl=some (.lst ws))(hp:jS th C H (kids q) ws)
  (fin:∀(x dx:Addr) (qv:V) (H':Hp),zz H H'->H x=none->NodeAt th C H' q x ws ah hd wl dx qv false xs->jR th C H' q (.ref x)->Q (.ref x) H'):
  ∀x dx,H x=none->H dx=none->dx≠x->spPInit K C (.ref x :: ([.ref ah,.ref hd,.ref wl] ++ [])) (upd (upd H dx (.own x)) x (.ins C dx [])) (λv H2=>v= .non/\Q (.ref x) H2) E:=by
 intro x dx a l n;have s1:zz H (upd (upd H dx (.own x)) x (.ins C dx [])):=λb o e=>by
  have b1:b≠x:=λz=>by rw [z,a]at e;cases e
  have b2:b≠dx:=λz=>by rw [z,l]at e;cases e
  rw [zn b1,zn b2];exact e
 refine⟨th,q,x,dx,ah,hd,wl,xs,ws,rfl,zl,s1 _ _ ha,d.mono λb xs z=>s1 _ _ z,s1 _ _ c,hp.ev (Ev.of (Nt.of s1)),λqv H' f i h=>⟨rfl,?_⟩⟩;have s2:zz H H':=λb o e=>f b o (λz=>by rw [z,a]at e;cases e) (s1 b o e)
 have nd:NodeAt th C H' q x ws ah hd wl dx qv false xs:=⟨i,s2 _ _ ha,d.mono λb xs z=>s2 _ _ z,s2 _ _ j,s2 _ _ c,h,λz=>by cases z⟩;exact fin x dx qv H' s2 a nd (zU.mpr ⟨ws,⟨x,ah,hd,wl,dx,qv,false,xs,rfl,nd⟩,hp.ev (Ev.of (Nt.of s2))⟩)
noncomputable def j9:Qn->Str
 | .table _=>"table"
 | .pick _ _=>"pick"
 | .cols _ _=>"cols"
 | .pair _ _=>"pair"
 | .join _ _ _ _=>"join"
 | .both _ _=>"both"
 | .first _ _=>"first"
 | .group _ _ _ _ _=>"group"
 | .sort _ _=>"sort"
theorem z0u(h:kO H q xs):∃r,xs= .str (j9 q) :: r:=by
 cases q with
 | pick c q=>obtain⟨x,e,h⟩:=h;exact⟨_,e⟩
 | cols ns q=>obtain⟨x,e,h⟩:=h;exact⟨_,e⟩
 | _=>exact⟨_,h⟩
inductive spIsPick (C:Addr) (vs:List V) (H:Hp) (Q:VK) (E:XK):Prop
 | mk:∀th q v,vs= [v]->jR th C H q v->Q (.bl (decide (j9 q="pick"))) H->spIsPick C vs H Q E
theorem z83:FnScope ["place"] ["place"] (zm z3t):=by walk_at "s"
theorem z82(F:Fun K "is_pick" "is_pick" z3t f fd)(T:Txt K mg)(c:PC K C):FnOk P w K mg base CX0 1 f fd ["place"] (spIsPick C):=by
 refine F.okB z83 (λvs H Q E h=> ?_) (λvs H Q E h=> ?_)
 ·obtain⟨th,q,v,rfl,_⟩:=h
  rfl
 obtain⟨th,q,v,rfl,hp,fin⟩:=h;obtain⟨ws,⟨a,ah,hd,wl,dx,qv,b,xs,rfl,nd⟩,_⟩:=zU.mp hp;obtain⟨r,rfl⟩:=z0u nd.ahx;intro ad A outer d hr;refine⟨_,(zg (zt (cmE zM (ixT (zE v0 rfl) zd) zi))),?_⟩;generalize hK0:K=K1;generalize hK1:C=C1
 revert C1
 revert K1
 refine z0i (by walk_at "cl") ?_;refine !(yJ c nd.me (zh nd.ahd zF ⟨rfl,?_⟩));rw [zV];exact fin
inductive spPickedP (C:Addr) (vs:List V) (H:Hp) (Q:VK) (E:XK):Prop
 | mk:∀th c q cv v,vs= [cv,v]->zG H c cv->jR th C H q v->(∀(x:Addr) (H':Hp),zz H H'->jR th C H' (.pick c q) (.ref x)->Q (.ref x) H')->spPickedP C vs H Q E
theorem z9Q:FnScope ["condition","place"] ["condition","place"] (zm z4l):=by walk_at "s"
theorem z9u(F:Fun K "picked" "picked" z4l f fd)(T:Txt K mg)(n:PC K C)(d:KnC P w K mg base 1 "Place" ["self","ahead","heads","within"] (spPInit K C) C):FnOk P w K mg base CX0 3 f fd ["condition","place"] (spPickedP C):=by
 refine F.okB z9Q (λvs H Q E h=> ?_) (λvs H Q E h=> ?_)
 ·obtain⟨th,c,q,cv,v,rfl,_⟩:=h
  rfl
 obtain⟨th,c,q,cv,v,rfl,hc,hp,fin⟩:=h;obtain⟨ws,⟨a,ah,hd,wl,dx,qv,b,xs,rfl,nd⟩,p⟩:=zU.mp hp;intro ad A outer s hr;refine⟨_,(zg (zt (yt d hr.m rfl (zH (zB (zo zi (zf v0 zb))) (zO (zE v1 rfl) (jM (zw (zf v1 zb)) zb)))))),?_⟩;generalize hK0:K=K1;generalize hK1:C=C1
 revert C1
 revert K1
 refine z0i (by walk_at "cl") ?_;refine !⟨(zq rfl),λtp l=> ?_⟩;refine ze (upd _ tp _) rfl l λH1 e x1=> ?_
 have r:=Ev.of (th:=th) (C:=C) (Nt.of e);refine !(z0Q n (e _ _ nd.me) ?_);refine !⟨(zq rfl),λlp j=> ?_⟩;refine ze (upd _ lp _) rfl j λH2 i o=> ?_
 have s2:=e.trans i;refine jI (q:= .pick c q) (xs:= [.str "pick",cv]) (i _ _ x1) ⟨cv,rfl,hc.mono λb xs z=>s2 _ _ z⟩ (s2 _ _ nd.hds) o ⟨_,[],rfl,hp.ev (Ev.of (Nt.of s2)),rfl⟩ λx aj aQ H' s' _ _ pl=>fin x H' (s2.trans s') pl
structure TxtM(K:W.Frag)(mg:Str->Option Value):Prop where
 all:mg "all"=none
 enumerate:mg "enumerate"=none
inductive spAmong (K:W.Frag) (vs:List V) (H:Hp) (Q:VK) (E:XK):Prop
 | mk:∀np hp (ns:List Str) (hs:List Str),vs= [.ref np,.ref hp]->H np=some (.lst (ns.map V.str))->H hp=some (.lst (hs.map V.str))->ns.length<=1000->(∀H',zz H H'->Q (.bl (jU ns hs)) H')->spAmong K vs H Q E
theorem z23:∀{hs:List Str},inV (.str s) (hs.map V.str)=decide (s∈hs):=by
 intro hs;by_cases h:s∈hs
 ·rw [z5Q h,wS h]
 ·rw [wL h];refine Qi.mpr λz=>h ?_
  obtain⟨y,a,e⟩:=w1b.mp z;obtain⟨n,hn,rfl⟩:=qI.mp a;have:n=s:=by simpa [eqV]using e
  exact this ▸ hn
theorem zaU:FnScope ["names","heads"] ["names","heads"] (zm z3T):=by walk_at "s"
theorem zaG(F:Fun K "among" "among" z3T f fd)(T:Txt K mg)(M:TxtM K mg):FnOk P w K mg base CX0 1 f fd ["names","heads"] (spAmong K):=by
 refine F.okB zaU (λvs H Q E h=> ?_) (λvs H Q E h=> ?_)
 ·obtain⟨np,hp,ns,hs,rfl,_⟩:=h
  rfl
 obtain⟨np,hp,ns,hs,rfl,h1,h2,hl,fin⟩:=h;intro ad A outer c hr;refine⟨_,(zg (zt (zR (zbD rfl) rfl M.all z9d (z1u (yI rfl (CompSc.of (sx:=zm z3T) (NX:= ["names","heads"]) (fr:= ["heads"]) (ix:= [1]) rfl rfl (by decide +kernel)) (jb v0) (λ_ _ _ _ _ _=>jZ) (λ_ _ _ _ _ _=>(z3X (z4I (K:=K) rfl) v0 v1 (by with_unfolding_all rfl)))) zb)))),?_⟩;generalize hK0:K=K1
 revert K1
 refine jq (by walk_at "cl") ?_;refine !⟨np,rfl,⟨_,SqL.of h1⟩,?_⟩;refine jH (xs:=ns.map V.str) (λi ys H'=>H'=H/\ys=(ns.take i).map λn=>V.bl (decide (n∈hs))) ⟨rfl,rfl⟩ ?_ ?_ ?_
 ·rintro i ys H' hi ⟨rfl,rfl⟩;exact⟨SqL.of h1,zK (by rw [w9,wX];lia)⟩
 ·rintro i y ys H' hi ⟨rfl,rfl⟩;rw [wQ]at hi;cases hn:ns[i]? with
  | none=>rw [hn]at hi;cases hi
  | some n=>
   rw [hn]at hi;cases hi;refine !(!⟨hp,!⟨.inl (SqL.of h2),rfl,jo hs,rfl,?_⟩⟩);rw [q5,hn,wK]
   show _ ++ [V.bl (inV _ _)]=_
   rw [z23]
   rfl
 ·rintro ys H' ⟨rfl,rfl⟩ lp b;refine ze (upd _ lp _) rfl b λH1 a x1=> ?_
  rw [w9,qH]at x1;refine⟨lp,ns.map λn=>decide (n∈hs),rfl,SqL.of (by rw [w11];exact x1),?_⟩;have e:(ns.map λn=>decide (n∈hs)).all id=jU ns hs:=by rw [List.all_map];rfl
  rw [e];exact fin H1 a
inductive spJoinedBy (C:Addr) (vs:List V) (H:Hp) (Q:VK) (E:XK):Prop
 | mk:∀th x y q r cv v,vs= [cv,v]->zG H (.same (.nm x) (.nm y)) cv->jR th C H (.pair q r) v->(∀(z:Addr) (H':Hp),zz H H'->jR th C H' (yB th x y q r) (.ref z)->Q (.ref z) H')->spJoinedBy C vs H Q E
theorem km:FnScope ["condition","pair","one","other"] ["condition","pair"] (zm z1R):=by walk_at "s"
theorem z5Z(F:Fun K "joined_by" "joined_by" z1R f fd)(T:Txt K mg)(e:PC K C)(c:KnC P w K mg base 1 "Place" ["self","ahead","heads","within"] (spPInit K C) C):FnOk P w K mg base CX0 3 f fd ["condition","pair"] (spJoinedBy C):=by
 refine F.okB km (λvs H Q E h=> ?_) (λvs H Q E h=> ?_)
 ·obtain⟨th,x,y,q,r,cv,v,rfl,_⟩:=h
  rfl
 obtain⟨th,x,y,q,r,cv,v,rfl,⟨cp,rfl,hc⟩,hp,fin⟩:=h;obtain⟨w1,w2,⟨a,ah,hd,wl,dx,qv,b,xs,rfl,nd⟩,j,p2⟩:=id hp;obtain⟨us,⟨a1,B,s,D,u,G,b1,t,rfl,i⟩,_⟩:=zU.mp j;intro ad A outer z hr;refine⟨_,(zc (seT 2 km (ixT v0 zd))
  (zc (seT 3 km (ixT v0 zd))
  (zc (z0f (yb yr v2 (zE (ixL (zE v1 rfl) zd) rfl) (by with_unfolding_all rfl))
   (zc (seT 2 km (ixT v0 zd))
   (zg (seT 3 km (ixT v0 zd))))
   zu)
  (zg (zt (yt c hr.m rfl (zH (zB (zo zi (zf v2 (zf v3 zb)))) (zO (zE v1 rfl) (zO (zE v1 rfl) zb))))))))),?_⟩
 generalize hK0:K=K1;generalize hK1:C=C1
 revert C1
 revert K1
 refine z0i (by walk_at "cl") ?_;refine !(zh hc j6 ?_);refine !(zh hc jr ?_);refine⟨λσ H'=>∃m n,σ= [some (.ref cp),some (.ref a),some (.str m),some (.str n)]/\H'=H/\yB th x y q r= .join m n q r,?_,?_⟩
 ·refine !(!(yW e nd.me (zx nd.wit zF (z0Q e i.me ⟨s,!⟨.inl (SqL.of i.hds),rfl,jo _,!?_⟩⟩))));rw [show inV (Side.nm x).v ((za th q).map V.str)=decide (x∈za th q)from z23];by_cases hx:x∈za th q
  ·refine ifF (by show(not (decide _))=false;rw [wS hx];rfl) ?_;exact⟨x,y,rfl,rfl,by unfold yB;rw [wY hx]⟩
  ·refine ifT (by show(not (decide _))=true;rw [wL hx];rfl) ?_;refine !(zh hc jr ?_);refine !(zh hc j6 ?_);exact⟨y,x,rfl,rfl,by unfold yB;rw [wU hx]⟩
 rintro σ H' ⟨m,n,rfl,rfl,p⟩;refine !(!⟨(zq rfl),λtp o=> ?_⟩);refine ze (upd _ tp _) rfl o λH1 d x1=> ?_
 refine !(z0Q e (d _ _ nd.me) ?_);refine !(yW e (d _ _ nd.me) ?_);have l:=Ev.of (th:=th) (C:=C) (Nt.of d);refine jI (q:= .join m n q r) (xs:= [.str "join",.str m,.str n]) x1 rfl (d _ _ nd.hds) (d _ _ nd.wit) ⟨_,!⟨j.ev l,_,[],rfl,p2.ev l,rfl⟩⟩ λx aj aQ H' s' _ _ pl=>fin x H' (d.trans s') (by rw [p];exact pl)
structure Two(th:Str->List Str)(mk:Qn->Qn->Qn)(ip:Bool):Prop where
 k:∀r s,kids (mk r s)= [r,s]
 h:∀r s,za th (mk r s)=za th r ++ za th s
 a:∀(H:Hp) (r s r' s':Qn) (xs:List V),kO H (mk r s) xs->kO H (mk r' s') xs
 p:ip=true->mk=Qn.pair
 w:∀r s,decide (j9 (mk r s)="pair")=ip
theorem zaT:Two th Qn.pair true:=⟨λ_ _=>rfl,λ_ _=>rfl,λ_ _ _ _ _ _ h=>h,λ_=>rfl,λ_ _=>by show decide (("pair":Str)="pair")=true;decide +kernel⟩
theorem za4{a b:Str}:Two th (Qn.join a b) false:=⟨λ_ _=>rfl,λ_ _=>rfl,λ_ _ _ _ _ _ h=>h,λz=>(by cases z),λ_ _=>by show decide (("join":Str)="pair")=false;decide +kernel⟩
theorem z6r(h:∀s,s∈ss↔s∈ns):jU ss hs=jU ns hs:=by
 rw [w0k,jv,jv];exact⟨λz n m=>z n ((h n).mpr m),λz n m=>z n ((h n).mp m)⟩
theorem z7p{a b:Side}(ok:(Cond.same a b).ok (hq ++ hr))(c:¬jU (Cond.same a b).cols hq=true)(d:¬jU (Cond.same a b).cols hr=true):∃x y,a= .nm x/\b= .nm y:=by
 have one:∀(x:Str),x∈hq ++ hr->(∀n∈(Cond.same a b).cols,n=x)->False:=λx e h=>by
  rcases wA.mp e with z | z
  ·exact c (jv.mpr λn m=>by rw [h n m];exact z)
  ·exact d (jv.mpr λn m=>by rw [h n m];exact z)
 cases a with
 | nm x=>cases b with
  | nm y=>exact⟨x,y,rfl,rfl⟩
  | nu j=>exact(one x ok.1 λn m=>by simpa [Cond.cols,Side.cols]using m).elim
 | nu i=>cases b with
  | nm y=>exact(one y ok.2 λn m=>by simpa [Cond.cols,Side.cols]using m).elim
  | nu j=>exact(c (jv.mpr λn m=>by simp [Cond.cols,Side.cols]at m)).elim
def zac(th:Str->List Str)(C:Addr)(H:Hp)(o:Option Qn)(Q:VK):Prop:=(∀q',o=some q'->∀(z:Addr) (H':Hp),zz H H'->jR th C H' q' (.ref z)->Q (.ref z) H')/\(o=none->∀H',zz H H'->Q .non H')
inductive spSentPart (C:Addr) (vs:List V) (H:Hp) (Q:VK) (E:XK):Prop
 | mk:∀th c (mk:Qn->Qn->Qn) ip r s cv v,vs= [cv,v]->Two th mk ip->zG H c cv->c.size<=20->c.ok (za th r ++ za th s)->jR th C H (mk r s) v->zac th C H (jy th c mk ip r s) Q->spSentPart C vs H Q E
theorem kR{v:V}(h:zG H c v):∃cp ys,v= .ref cp/\H cp=some (.tup (.str (wordOf c) :: ys)):=by
 cases c with
 | less a b=>obtain⟨p,rfl,hp⟩:=h;exact⟨p,!hp⟩
 | same a b=>obtain⟨p,rfl,hp⟩:=h;exact⟨p,!hp⟩
 | no c=>obtain⟨p,x,rfl,hp,_⟩:=h;exact⟨p,!hp⟩
 | an c d=>obtain⟨p,x,y,rfl,hp,_⟩:=h;exact⟨p,!hp⟩
 | or c d=>obtain⟨p,x,y,rfl,hp,_⟩:=h;exact⟨p,!hp⟩
theorem yz:FnScope ["condition","place","names","first","second"] ["condition","place"] (zm kS):=by walk_at "s"
theorem z2L(F:Fun K "sent_to_a_part" "sent_to_a_part" kS f fd)(T:Txt K mg)(B:PC K C)(o:KnC P w K mg base 1 "Place" ["self","ahead","heads","within"] (spPInit K C) C)(d:Kn P w K mg base 1 "columns_of" ["condition"] (spCols K))(t:Kn P w K mg base 1 "among" ["names","heads"] (spAmong K))(i:Kn P w K mg base 3 "picked" ["condition","place"] (spPickedP C))(e:Kn P w K mg base 3 "joined_by" ["condition","pair"] (spJoinedBy C)):FnOk P w K mg base CX0 4 f fd ["condition","place"] (spSentPart C):=by
 refine F.okB yz (λvs H Q E h=> ?_) (λvs H Q E h=> ?_)
 ·obtain⟨th,c,mk,ip,r,s,cv,v,rfl,_⟩:=h
  rfl
 obtain⟨th,c,mk,ip,r,s,cv,v,rfl,u,hc,hz,ok,hp,G,D⟩:=h;obtain⟨ws,⟨a,ah,hd,wl,dx,qv,b,xs,rfl,nd⟩,hk⟩:=zU.mp hp;rw [u.k]at hk;obtain⟨w1,us,rfl,S,w2,eY,rfl,p2,rfl⟩:=hk;obtain⟨cY,⟨a1,A4,gS,tj,A5,iG,b1,A6,rfl,X⟩,_⟩:=zU.mp S;obtain⟨eY,⟨a2,cz,bE,cV,c9,bZ,b2,cK,rfl,ak⟩,_⟩:=zU.mp p2;intro ad A outer sh hr;refine⟨_,(zc (seT 2 yz (zW d hr.m (zf v0 zb)))
  (zc (seT 3 yz (ixL (zE v1 rfl) zd))
  (zc (seT 4 yz (ixL (zE v1 rfl) zd))
  (zc (zC (zY (zW t hr.m (zf v2 (zO (zE v3 rfl) zb))))
   (zg (zt (yt o hr.m rfl (zO (zE v1 rfl) (zO (zE v1 rfl) (jM (zw (zX (zW i hr.m (zf v0 (zf v3 zb))) (zf v4 zb))) zb))))))
   zu)
  (zc (zC (zY (zW t hr.m (zf v2 (zO (zE v4 rfl) zb))))
   (zg (zt (yt o hr.m rfl (zO (zE v1 rfl) (zO (zE v1 rfl) (jM (zw (zf v3 (zX (zW i hr.m (zf v0 (zf v4 zb))) zb))) zb))))))
   zu)
  (zc (zC (PW.pt (z0d (cmT zM (ixT (zE v1 rfl) zd) zi) (kW (cmT zM (ixT v0 zd) zi))))
   (zg (zt (zW e hr.m (zf v0 (zf v1 zb)))))
   zu)
  (zg (zt z2v)))))))),?_⟩
 generalize hK0:K=K1;generalize hK1:C=C1
 revert C1
 revert K1
 refine z0i (by walk_at "cl") ?_;have lc:=c.cols_le;refine !⟨c,cv,c.cols,rfl,hc,by lia,λs m=>m,by lia,λl ss H1 I x1 R mem _=> ?_⟩;have ls:ss.length<=c.cols.length:=yZ R λn m=>(mem n).mp m
 refine !(yW B (I _ _ nd.me) (zx (I _ _ nd.wit) zF ?_));refine !(yW B (I _ _ nd.me) (zx (I _ _ nd.wit) j6 ?_));refine !(!(z0Q B (I _ _ X.me) ⟨l,gS,ss,_,rfl,x1,I _ _ X.hds,by lia,λH2 Y=>!?_⟩));have s2:=I.trans Y;rw [z6r mem];unfold jy at G D;by_cases h1:jU c.cols (za th r)=true
 ·rw [wY h1]at G;refine ifT h1 ?_;refine !(yJ B (s2 _ _ nd.me) ?_);refine !(z0Q B (s2 _ _ nd.me) ?_);refine !(!⟨th,c,r,cv,.ref a1,rfl,hc.mono λb xs z=>s2 _ _ z,S.ev (Ev.of (Nt.of s2)),λx J U pl=>!⟨(zq rfl),λlp O=> ?_⟩⟩);refine ze (upd _ lp _) rfl O λH4 N x4=> ?_
  have M:=s2.trans (U.trans N);refine jI (q:=mk (.pick c r) s) (xs:=xs) (M _ _ nd.ahd) (u.a _ _ _ _ _ _ (nd.ahx.mono λb xs z=>M _ _ z)) (by have:=M _ _ nd.hds;rw [u.h]at this ⊢;exact this) x4 (by rw [u.k];exact⟨_,!⟨pl.ev (Ev.of (Nt.of N)),_,[],rfl,p2.ev (Ev.of (Nt.of M)),rfl⟩⟩) λx aj aQ H' s' _ _ pl=>G _ rfl x H' (M.trans s') pl
 rw [wU h1]at G D;refine ifF (Qi.mpr h1) ?_;refine !(!(z0Q B (s2 _ _ ak.me) ⟨l,bE,ss,_,rfl,Y _ _ x1,s2 _ _ ak.hds,by lia,λJ U=>!?_⟩));have j:=s2.trans U;rw [z6r mem];by_cases h2:jU c.cols (za th s)=true
 ·rw [wY h2]at G;refine ifT h2 ?_;refine !(yJ B (j _ _ nd.me) ?_);refine !(z0Q B (j _ _ nd.me) ?_);refine !(!(!⟨th,c,s,cv,.ref a2,rfl,hc.mono λb xs z=>j _ _ z,p2.ev (Ev.of (Nt.of j)),λx H4 N pl=>⟨(zq rfl),λlp O=> ?_⟩⟩));refine ze (upd _ lp _) rfl O λH5 Z x5=> ?_
  have L:=j.trans (N.trans Z);refine jI (q:=mk r (.pick c s)) (xs:=xs) (L _ _ nd.ahd) (u.a _ _ _ _ _ _ (nd.ahx.mono λb xs z=>L _ _ z)) (by have:=L _ _ nd.hds;rw [u.h]at this ⊢;exact this) x5 (by rw [u.k];exact⟨_,!⟨S.ev (Ev.of (Nt.of L)),_,[],rfl,pl.ev (Ev.of (Nt.of Z)),rfl⟩⟩) λx aj aQ H' s' _ _ pl=>G _ rfl x H' (L.trans s') pl
 rw [wU h2]at G D;refine ifF (Qi.mpr h2) ?_;obtain⟨xr,eZ⟩:=z0u nd.ahx;refine !(yJ B (j _ _ nd.me) (zh (j _ _ nd.ahd) (by rw [eZ];exact zF) ⟨rfl,!?_⟩));rw [zV,u.w];cases ip with
 | false=>
  refine ifF rfl ?_;exact D rfl J j
 | true=>
  refine ifT rfl ?_;have em:mk=Qn.pair:=u.p rfl;obtain⟨cp,ys,rfl,aI⟩:=kR hc;refine !(zh (j _ _ aI) zF ⟨rfl,!?_⟩);rw [zV];subst em;by_cases hw:wordOf c="same"
  ·refine ifT (wS hw) ?_;cases c with
   | same x y=>
    obtain⟨m,n,rfl,rfl⟩:=z7p ok h1 h2;exact !(!⟨th,m,n,r,s,_,_,rfl,hc.mono λb xs z=>j _ _ z,hp.ev (Ev.of (Nt.of j)),λz H' s' pl=>G _ rfl z H' (j.trans s') pl⟩)
   | less x y=>exact absurd hw (nb (by kernel_rfl))
   | no x=>exact absurd hw (nb (by kernel_rfl))
   | an x y=>exact absurd hw (nb (by kernel_rfl))
   | or x y=>exact absurd hw (nb (by kernel_rfl))
  ·refine ifF (wL hw) ?_;cases c with
   | same x y=>exact absurd rfl hw
   | less x y=>exact D rfl J j
   | no x=>exact D rfl J j
   | an x y=>exact D rfl J j
   | or x y=>exact D rfl J j
theorem jS.app:∀{qs rs:List Qn} {vs us:List V},jS th C H qs vs->jS th C H rs us->jS th C H (qs ++ rs) (vs ++ us)
 | [],_,_,_,h,g=>by rw [show _= []from h];exact g
 | _ :: _,_,_,_,⟨v,ws,a,h1,h2⟩,g=>⟨v,ws ++ _,by rw [a];rfl,h1,h2.app g⟩
inductive spSentW (C:Addr) (vs:List V) (H:Hp) (Q:VK) (E:XK):Prop
 | mk:∀th c q cv v,vs= [cv,v]->zG H c cv->c.size<=20->c.ok (za th q)->jR th C H q v->zac th C H (ja th c q) Q->spSentW C vs H Q E
theorem z4u:FnScope ["condition","place"] ["condition","place"] (zm kU):=by walk_at "s"
theorem z4D(F:Fun K "sent_within" "sent_within" kU f fd)(T:Txt K mg)(t:PC K C)(n:KnC P w K mg base 1 "Place" ["self","ahead","heads","within"] (spPInit K C) C)(j:Kn P w K mg base 3 "picked" ["condition","place"] (spPickedP C))(d:Kn P w K mg base 4 "sent_to_a_part" ["condition","place"] (spSentPart C)):FnOk P w K mg base CX0 5 f fd ["condition","place"] (spSentW C):=by
 refine F.okB z4u (λvs H Q E h=> ?_) (λvs H Q E h=> ?_)
 ·obtain⟨th,c,q,cv,v,rfl,_⟩:=h
  rfl
 obtain⟨th,c,q,cv,v,rfl,hc,hz,ok,hp,B,G⟩:=h;obtain⟨ws,⟨a,ah,hd,wl,dx,qv,b,xs,rfl,nd⟩,S⟩:=zU.mp hp;obtain⟨cp,ys,rfl,aI⟩:=kR hc;obtain⟨xr,U⟩:=z0u nd.ahx;intro ad A outer sh hr;refine⟨_,(zc (zC (cmT zM (ixT v0 zd) zi)
   (zg (zt (zW j hr.m (zj (ixT v0 zd) (zX (zW j hr.m (zj (ixT v0 zd) (zf v1 zb))) zb)))))
   zu)
  (zc (zC (yb yk (ixT (zE v1 rfl) zd) (zB (zo zi (zo zi (zo zi zb)))) (by with_unfolding_all rfl))
   (zg (zt (yt n hr.m rfl (zO (zE v1 rfl) (zO (zE v1 rfl) (z1u (yI rfl (CompSc.of (sx:=zm kU) (NX:= ["condition","place"]) (fr:= ["condition"]) (ix:= [0]) rfl rfl (by decide +kernel)) (jb (zE v1 rfl)) (λ_ _ _ _ _ _=>jZ) (λ_ _ _ _ _ _=>(zW j hr.m (zf v1 (zf v0 zb))))) zb))))))
   zu)
  (zc (zC (yb yk (ixT (zE v1 rfl) zd) (zB (zo zi (zo zi zb))) (by with_unfolding_all rfl))
   (zg (zt (zW d hr.m (zf v0 (zf v1 zb)))))
   zu)
  (zg (zt z2v))))),?_⟩
 generalize hK0:K=K1;generalize hK1:C=C1
 revert C1
 revert K1
 refine z0i (by walk_at "cl") ?_;refine !(zh aI zF ⟨rfl,!?_⟩);rw [zV];by_cases hw:wordOf c="and"
 ·refine ifT (wS hw) ?_;cases c with
  | an x y=>
   obtain⟨A7,c1,c2,e0,L,k1,k2⟩:=hc;cases e0;refine !(zh L j6 ?_);refine !(zh L jr (!⟨th,y,q,c2,_,rfl,k2,hp,λz H1 l pl=> ?_⟩));exact⟨th,x,.pick y q,c1,_,rfl,k1.mono λb xs z=>l _ _ z,pl,λz' H2 J dt=>B _ rfl z' H2 (l.trans J) dt⟩
  | less x y=>exact absurd hw (nb (by kernel_rfl))
  | same x y=>exact absurd hw (nb (by kernel_rfl))
  | no x=>exact absurd hw (nb (by kernel_rfl))
  | or x y=>exact absurd hw (nb (by kernel_rfl))
 refine ifF (wL hw) ?_;have eW:ja th c q=z6J th c q:=by cases c <;> first | rfl | exact absurd rfl hw
 rw [eW]at B G;refine !(yJ t nd.me (zh nd.ahd (by rw [U];exact zF) ⟨(zq rfl),λtp Z=> ?_⟩));refine ze (upd _ tp _) rfl Z λH1 l x1=> ?_
 refine⟨tp,!⟨.inr (SqT.of x1),rfl,rfl,!?_⟩⟩;have hl:=S.len;have lk:=z2T q;by_cases bx:inV (.str (j9 q)) [.str "sort",.str "cols",.str "both"]=true
 ·refine ifT bx ?_;obtain⟨q',e,ek,eh,ea⟩:∃q',z6J th c q=some q'/\kids q'=(kids q).map (Qn.pick c)/\za th q'=za th q/\∀(H:Hp) (xs:List V),kO H q xs->kO H q' xs:=by
   cases q with
   | sort x r=>exact !⟨rfl,rfl,λ_ _ h=>h⟩
   | cols ns r=>exact !⟨rfl,rfl,λ_ _ h=>h⟩
   | both r s=>exact !⟨rfl,rfl,λ_ _ h=>h⟩
   | _=>exact absurd bx (Qi.mp (by kernel_rfl))
  refine !(yJ t (l _ _ nd.me) ?_);refine !(z0Q t (l _ _ nd.me) ?_);refine !(yW t (l _ _ nd.me) ⟨wl,rfl,⟨_,SqL.of (l _ _ nd.wit)⟩,?_⟩);refine jH (xs:=ws) (λi zs H'=>zz H1 H'/\zs.length=i/\jS th C H' (((kids q).take i).map (Qn.pick c)) zs) ⟨zz.refl _,rfl,by rw [w0A];rfl⟩ ?_ ?_ ?_
  ·rintro i zs H' hi ⟨o,I,_⟩;exact⟨SqL.of (o _ _ (l _ _ nd.wit)),zK (by lia)⟩
  ·rintro i y zs H' hi ⟨o,I,hq⟩;have O:i < (kids q).length:=by rw [<-hl];exact(wk.mp hi).1
   obtain⟨v,N,pv⟩:=S.at (we O);rw [hi]at N;cases N;have s1:=l.trans o;refine !(!⟨th,c,(kids q)[i],_,y,rfl,hc.mono λb xs z=>s1 _ _ z,pv.ev (Ev.of (Nt.of s1)),λx H3 X pl=>⟨o.trans X,by rw [wg,I];rfl,?_⟩⟩);rw [q5,we O,wK];exact(hq.ev (Ev.of (Nt.of X))).app ⟨_,[],rfl,pl,rfl⟩
  ·rintro zs H' ⟨o,I,hq⟩ lp ai;refine ze (upd _ lp _) rfl ai λH4 Y x4=> ?_
   rw [hl,qH]at hq;have D:=l.trans (o.trans Y);exact jI (q:=q') (xs:=xs) (D _ _ nd.ahd) (ea _ _ (nd.ahx.mono λb xs z=>D _ _ z)) (by rw [eh];exact D _ _ nd.hds) x4 (by rw [ek];exact hq.ev (Ev.of (Nt.of Y))) λx aj aQ H' s' _ _ pl=>B _ e x H' (D.trans s') pl
 refine ifF (Qi.mpr bx) ?_;refine !(yJ t (l _ _ nd.me) (zh (l _ _ nd.ahd) (by rw [U];exact zF) ⟨(zq rfl),λu p=> ?_⟩));refine ze (upd _ u _) rfl p λH2 J x2=> ?_
 refine⟨u,!⟨.inr (SqT.of x2),rfl,rfl,!?_⟩⟩;have s2:=l.trans J;have M:=hp.ev (Ev.of (Nt.of s2));have R:zG H2 c (.ref cp):=hc.mono λb xs z=>s2 _ _ z
 cases q with
 | pair r s=>exact ifT (by show inV (.str "pair") _=true;decide +kernel) (!(!⟨th,c,.pair,true,r,s,_,_,rfl,zaT,R,hz,ok,M,λq' e z H' s' pl=>B q' e z H' (s2.trans s') pl,λe H' s'=>G e H' (s2.trans s')⟩))
 | join x y r s=>exact ifT (by show inV (.str "join") _=true;decide +kernel) (!(!⟨th,c,.join x y,false,r,s,_,_,rfl,za4,R,hz,ok,M,λq' e z H' s' pl=>B q' e z H' (s2.trans s') pl,λe H' s'=>G e H' (s2.trans s')⟩))
 | sort | cols | both=>exact absurd (by kernel_rfl) bx
 | _=>exact ifF (by kernel_rfl) (G rfl H2 s2)
inductive spTakes (C:Addr) (vs:List V) (H:Hp) (Q:VK) (E:XK):Prop
 | mk:∀th c q cv v,vs= [v,cv]->zG H c cv->c.size<=20->c.ok (za th q)->jR th C H q v->(∀H',zz H H'->Q (.bl (ja th c q).isSome) H')->spTakes C vs H Q E
theorem zaf:FnScope ["place","condition"] ["place","condition"] (zm z6j):=by walk_at "s"
theorem zaD(F:Fun K "takes" "takes" z6j f fd)(T:Txt K mg)(a:Kn P w K mg base 5 "sent_within" ["condition","place"] (spSentW C)):FnOk P w K mg base CX0 6 f fd ["place","condition"] (spTakes C):=by
 refine F.okB zaf (λvs H Q E h=> ?_) (λvs H Q E h=> ?_)
 ·obtain⟨th,c,q,cv,v,rfl,_⟩:=h
  rfl
 obtain⟨th,c,q,cv,v,rfl,hc,hz,ok,hp,fin⟩:=h;intro ad A outer b hr;refine⟨_,(zg (zt (cmE z8j (zW a hr.m (zf v1 (zf v0 zb))) z2v))),?_⟩;generalize hK0:K=K1;generalize hK1:C=C1
 revert C1
 revert K1
 refine z0i (by walk_at "cl") ?_;refine !(!⟨th,c,q,cv,v,rfl,hc,hz,ok,hp,λq' e z H' s' pl=>⟨rfl,?_⟩,λe H' s'=>⟨rfl,?_⟩⟩)
 ·have:=fin H' s';rw [e]at this;exact this
 ·have:=fin H' s';rw [e]at this;exact this
theorem kT(q:Qn):za th (beneath q)=za th q:=by
 induction q with
 | pick _ _ h=>exact h
 | _=>rfl
theorem z32(h:¬j9 q="pick"):∀c r,q≠ .pick c r:=λc r e=>h (by rw [e];rfl)
theorem yT(h:j9 q="pick"):∃c r,q= .pick c r:=by
 cases q <;> first | exact⟨_,_,rfl⟩ | exact absurd h (qj (by kernel_rfl))
inductive spPasses (C:Addr) (vs:List V) (H:Hp) (Q:VK) (E:XK):Prop
 | mk:∀th c q cv v,vs= [cv,v]->zG H c cv->c.size<=20->c.ok (za th q)->jR th C H q v->(∀H',zz H H'->Q (.bl (ja th c (beneath q)).isSome) H')->spPasses C vs H Q E
theorem z3h:FnScope ["condition","place","beneath"] ["condition","place"] (zm z4n):=by walk_at "s"
theorem z9v(F:Fun K "passes" "passes" z4n f fd)(T:Txt K mg)(n:PC K C)(e:Kn P w K mg base 1 "is_pick" ["place"] (spIsPick C))(i:Kn P w K mg base 6 "takes" ["place","condition"] (spTakes C)):FnOk P w K mg base CX0 7 f fd ["condition","place"] (spPasses C):=by
 refine F.okB z3h (λvs H Q E h=> ?_) (λvs H Q E h=> ?_)
 ·obtain⟨th,c,q,cv,v,rfl,_⟩:=h
  rfl
 obtain⟨th,c,q,cv,v,rfl,hc,hz,ok,hp,fin⟩:=h;intro ad A outer s hr;refine⟨_,(zc (seT 2 z3h v1)
  (zc (z7d (zY (zW e hr.m (zf v2 zb)))
   (zg (seT 2 z3h (ixL (zE v2 rfl) zd))))
  (zg (zt (zW i hr.m (zf v2 (zf v0 zb))))))),?_⟩
 generalize hK0:K=K1;generalize hK1:C=C1
 revert C1
 revert K1
 refine z0i (by walk_at "cl") ?_;refine !?_;refine z0N (λm σ H'=>∃(r:Qn) (u:V),σ= [some cv,some v,some u]/\H'=H/\jR th C H r u/\beneath r=beneath q/\m=depth r) (depth q) ⟨q,v,rfl,rfl,hp,rfl,rfl⟩ ?_;rintro m σ H' ⟨r,u,rfl,rfl,l,j,rfl⟩;refine !⟨th,r,u,rfl,l,?_⟩;refine !?_;by_cases hw:j9 r="pick"
 ·refine ifT (wS hw) ?_;obtain⟨d,t,rfl⟩:=yT hw;obtain⟨p,⟨a,ah,hd,wl,dx,qv,b,xs,rfl,nd⟩,pt⟩:=l;refine⟨λσ H2=>∃u,σ= [some cv,some v,some u]/\H2=H'/\jR th C H' t u,?_,?_⟩
  ·rintro σ' H2 ⟨u,rfl,rfl,h⟩;exact⟨depth t,by show depth t < depth t + 1;lia,t,u,rfl,rfl,h,j,rfl⟩
  ·refine !(yW n nd.me (zx nd.wit zF ?_));exact !⟨rfl,pt⟩
 ·refine ifF (wL hw) ?_;rw [<-j,z2y (z32 hw)]at fin;have o:za th r=za th q:=by rw [<-kT r,j,kT]
  exact !(!⟨th,c,r,cv,u,rfl,hc,hz,by rw [o];exact ok,l,fin⟩)
theorem z5t:decide (wordOf c="and")=z3e c:=by
 cases c with
 | an x y=>show decide (("and":Str)="and")=true;decide +kernel
 | less x y=>show decide (("less":Str)="and")=false;decide +kernel
 | same x y=>show decide (("same":Str)="and")=false;decide +kernel
 | no x=>show decide (("not":Str)="and")=false;decide +kernel
 | or x y=>show decide (("or":Str)="and")=false;decide +kernel
theorem z6f(h:¬j9 r="pick"):yc th (.pick c r)=ja th c r:=by
 cases r <;> first | rfl | exact absurd rfl h
inductive spTurnedPick (C:Addr) (vs:List V) (H:Hp) (Q:VK) (E:XK):Prop
 | mk:∀th (c:Cond) r v,vs= [v]->c.ok (za th r)->c.size<=20->jR th C H (.pick c r) v->zac th C H (yc th (.pick c r)) Q->spTurnedPick C vs H Q E
theorem z0E:FnScope ["place","condition","inner"] ["place"] (zm z0W):=by walk_at "s"
theorem z4h(F:Fun K "turned_pick" "turned_pick" z0W f fd)(T:Txt K mg)(x:PC K C)(l:Kn P w K mg base 1 "is_pick" ["place"] (spIsPick C))(i:Kn P w K mg base 5 "sent_within" ["condition","place"] (spSentW C))(n:Kn P w K mg base 7 "passes" ["condition","place"] (spPasses C))(j:Kn P w K mg base 3 "picked" ["condition","place"] (spPickedP C)):FnOk P w K mg base CX0 8 f fd ["place"] (spTurnedPick C):=by
 refine F.okB z0E (λvs H Q E h=> ?_) (λvs H Q E h=> ?_)
 ·obtain⟨th,c,r,v,rfl,_⟩:=h
  rfl
 obtain⟨th,c,r,v,rfl,ok,hz,hp,q,p⟩:=h;obtain⟨y,⟨a,ah,hd,wl,dx,qv,b,xs,rfl,nd⟩,s⟩:=id hp;obtain⟨cv,rfl,hc⟩:=id nd.ahx;obtain⟨cp,ys,rfl,G⟩:=kR hc;intro ad A outer S hr;refine⟨_,(zc (seT 1 z0E (ixT (zE v0 rfl) zd))
  (zc (seT 2 z0E (ixL (zE v0 rfl) zd))
  (zc (zC (PW.pt (z2F (cmT zM (ixT v1 zd) zi) (z1V (jT (zY (zW l hr.m (zf v2 zb)))))))
   (zg (zt (zW i hr.m (zf v1 (zf v2 zb)))))
   zu)
  (zc (zC (zY (zW n hr.m (zf v1 (zf v2 zb))))
   (zg (zt (zW j hr.m (zj (ixT (zE v2 rfl) zd) (zX (zW j hr.m (zf v1 (zj (ixL (zE v2 rfl) zd) zb))) zb)))))
   zu)
  (zg (zt z2v)))))),?_⟩
 generalize hK0:K=K1;generalize hK1:C=C1
 revert C1
 revert K1
 refine z0i (by walk_at "cl") ?_;refine !(yJ x nd.me (zh nd.ahd j6 ?_));refine !(yW x nd.me (zx nd.wit zF ?_));refine !(zh G zF ⟨rfl,!?_⟩);rw [zV,z5t];by_cases ha:z3e c=true
 ·refine ifT ha ?_;have e:yc th (.pick c r)=ja th c r:=by
   by_cases hw:j9 r="pick"
   ·obtain⟨d,t,rfl⟩:=yT hw
    show(if z3e c=true then _ else _)=_
    rw [wY ha]
   ·exact z6f hw
  rw [e]at q p;exact !(!⟨th,c,r,_,y,rfl,hc,hz,ok,s,q,p⟩)
 ·refine ifF (Qi.mpr ha) ?_;refine !⟨th,r,y,rfl,s,?_⟩;refine !?_;by_cases hw:j9 r="pick"
  ·rw [wS hw];refine ifF rfl ?_;obtain⟨d,t,rfl⟩:=yT hw;obtain⟨w2,⟨a2,Z,X,U,Y,bZ,b2,R,rfl,u⟩,pt⟩:=id s;obtain⟨I,rfl,J⟩:=id u.ahx;have e:yc th (.pick c (.pick d t))=if(ja th c (beneath t)).isSome=true then some (.pick d (.pick c t))else none:=by
    show(if z3e c=true then _ else _)=_
    rw [wU ha]
   rw [e]at q p;refine !(!⟨th,c,.pick d t,_,_,rfl,hc,hz,ok,s,λH1 o=>!?_⟩);have O:beneath (.pick d t)=beneath t:=rfl;rw [O];by_cases hs:(ja th c (beneath t)).isSome=true
   ·rw [wY hs]at q;refine ifT hs ?_;refine !(yJ x (o _ _ u.me) (zh (o _ _ u.ahd) j6 ?_));refine !(!(yW x (o _ _ u.me) (zx (o _ _ u.wit) zF ⟨th,c,t,_,w2,rfl,hc.mono λb xs z=>o _ _ z,pt.ev (Ev.of (Nt.of o)),λz H2 N pl=> ?_⟩)));have s2:=o.trans N;exact⟨th,d,.pick c t,I,_,rfl,J.mono λb xs z=>s2 _ _ z,pl,λL D B M=>q _ rfl L D (s2.trans B) M⟩
   ·rw [wU hs]at p;refine ifF (Qi.mpr hs) ?_;exact p rfl H1 o
  ·rw [wL hw];refine ifT rfl ?_;rw [z6f hw]at q p;exact !(!⟨th,c,r,_,y,rfl,hc,hz,ok,s,q,p⟩)
theorem z7c{hd:Addr}(ha:H ah=some (.tup xs))(c:kO H q xs)(j:H hd=some (.lst ((za th q).map V.str)))(b:H wl=some (.lst ws))(hp:jS th C H (kids q) ws)
  (fin:∀(x:Addr) (H':Hp),zz H H'->jR th C H' q (.ref x)->R x .non H'):
  ∀x dx,H x=none->H dx=none->dx≠x->spPInit K C (.ref x :: ([.ref ah,.ref hd,.ref wl] ++ [])) (upd (upd H dx (.own x)) x (.ins C dx [])) (R x) E:=by
 intro x dx B o h;obtain⟨p,q',n,aj,D,l,bL,A,f,e,h1,h2,s,i,u,w⟩:=jI (K:=K) (E:=E) (Q:=λv H'=>∀z,v= .ref z->R z .non H') ha c j b hp (λz aj aQ H' s' _ _ pl y r=>by cases r;exact fin z H' s' pl) x dx B o h;exact⟨p,q',n,aj,D,l,bL,A,f,e,h1,h2,s,i,u,λqv H' a t d=>(w qv H' a t d).2 x rfl⟩
theorem z0J(h:j9 q="first"):∃n r,q= .first n r:=by
 cases q <;> first | exact⟨_,_,rfl⟩ | exact absurd h (qj (by kernel_rfl))
theorem kM(h:j9 q="cols"):∃ns r,q= .cols ns r:=by
 cases q <;> first | exact⟨_,_,rfl⟩ | exact absurd h (qj (by kernel_rfl))
theorem z1f(h:j9 q="sort"):∃a r,q= .sort a r:=by
 cases q <;> first | exact⟨_,_,rfl⟩ | exact absurd h (qj (by kernel_rfl))
inductive spTurnedFirst (C:Addr) (vs:List V) (H:Hp) (Q:VK) (E:XK):Prop
 | mk:∀th n r v,vs= [v]->jR th C H (.first n r) v->zac th C H (yc th (.first n r)) Q->spTurnedFirst C vs H Q E
theorem z0g:FnScope ["place","inner","beneath"] ["place"] (zm z0F):=by walk_at "s"
theorem z3G(F:Fun K "turned_first" "turned_first" z0F f fd)(T:Txt K mg)(e:PC K C)(c:KnC P w K mg base 1 "Place" ["self","ahead","heads","within"] (spPInit K C) C):FnOk P w K mg base CX0 3 f fd ["place"] (spTurnedFirst C):=by
 refine F.okB z0g (λvs H Q E h=> ?_) (λvs H Q E h=> ?_)
 ·obtain⟨th,n,r,v,rfl,_⟩:=h
  rfl
 obtain⟨th,n,r,v,rfl,hp,D,N⟩:=h;obtain⟨R,⟨a,ah,hd,wl,dx,qv,b,xs,rfl,nd⟩,J⟩:=id hp;have ex:xs= [.str "first",.int n]:=nd.ahx;subst ex;obtain⟨us,⟨a2,cz,bE,cV,Z,bZ,b2,p,rfl,d⟩,s⟩:=zU.mp J;obtain⟨xr,y⟩:=z0u d.ahx;intro ad A outer X hr;refine⟨_,(zc (seT 1 z0g (ixL (zE v0 rfl) zd))
  (zc (zC (cmT zM (ixT (zE v1 rfl) zd) zi)
   (zg (zt (yt c hr.m rfl (zH (zB (zo zi (zX (zR (z5i rfl) rfl T.min PyProof.Rows.boot_min (zj (ixT (zE v0 rfl) zd) (zj (ixT (zE v1 rfl) zd) zb))) zb))) (zO (zE v0 rfl) (zO (zE v1 rfl) zb))))))
   zu)
  (zc (zC (cmT zM (ixT (zE v1 rfl) zd) zi)
   (zc (seT 2 z0g (ixL (zE v1 rfl) zd))
   (zg (zt (yt c hr.m rfl (zO (zE v1 rfl) (zO (zE v1 rfl) (jM (zw (zX (yt c hr.m rfl (zO (zE v0 rfl) (zO (zE v2 rfl) (jM (zw (zf v2 zb)) zb)))) zb)) zb)))))))
   zu)
  (zg (zt z2v))))),?_⟩
 generalize hK0:K=K1;generalize hK1:C=C1
 revert C1
 revert K1
 refine z0i (by walk_at "cl") ?_;refine !(yW e nd.me (zx nd.wit zF ?_));refine !(yJ e d.me (zh d.ahd (by rw [y];exact zF) ⟨rfl,!?_⟩));rw [zV];by_cases h1:j9 r="first"
 ·refine ifT (wS h1) ?_;obtain⟨m,t,rfl⟩:=z0J h1;have ex2:p= [.str "first",.int m]:=d.ahx;subst ex2;refine !(yJ e nd.me (zh nd.ahd j6 ?_));refine !(yJ e d.me (zh d.ahd j6 ⟨n,m,rfl,(zq rfl),λtp I=> ?_⟩));refine ze (upd _ tp _) rfl I λH1 i x1=> ?_
  rw [show(if m < n then m else n)=min n m by split <;> lia]at x1;refine !(z0Q e (i _ _ nd.me) ?_);refine !(yW e (i _ _ d.me) ?_);exact jI (q:= .first (min n m) t) (xs:= [.str "first",.int (min n m)]) x1 rfl (i _ _ nd.hds) (i _ _ d.wit) (s.ev (Ev.of (Nt.of i))) λx aj aQ H' s' _ _ pl=>D _ rfl x H' (i.trans s') pl
 refine ifF (wL h1) ?_;refine !(yJ e d.me (zh d.ahd (by rw [y];exact zF) ⟨rfl,!?_⟩));rw [zV];by_cases h2:j9 r="cols"
 ·refine ifT (wS h2) ?_;obtain⟨ns,t,rfl⟩:=kM h2;obtain⟨S,DT,rfl,B,rfl⟩:=s;obtain⟨DU,⟨Y,DV,DW,DX,DY,U,b3,E4,rfl,u⟩,_⟩:=zU.mp B;refine !(yW e d.me (zx d.wit zF ?_));refine !(yJ e d.me ?_);refine !(z0Q e d.me ?_);refine !(yJ e nd.me ?_);refine !(z0Q e u.me ?_);refine !⟨(zq rfl),λlp L=> ?_⟩;refine ze (upd _ lp _) rfl L λH1 i x1=> ?_
  refine z7c (q:= .first n t) (xs:= [.str "first",.int n]) (i _ _ nd.ahd) rfl (i _ _ u.hds) x1 ⟨_,[],rfl,B.ev (Ev.of (Nt.of i)),rfl⟩ λx H2 s2 pl=>⟨rfl,(zq rfl),λo j=> ?_⟩
  refine ze (upd _ o _) rfl j λO G M=> ?_
  have l:=i.trans (s2.trans G);exact jI (q:= .cols ns (.first n t)) (xs:=p) (l _ _ d.ahd) (d.ahx.mono λb xs z=>l _ _ z) (l _ _ d.hds) M ⟨_,[],rfl,pl.ev (Ev.of (Nt.of G)),rfl⟩ λx aj aQ H' s' _ _ pl=>D _ rfl x H' (l.trans s') pl
 refine ifF (wL h2) ?_;refine N ?_ H (zz.refl _);cases r <;> first | rfl | exact absurd rfl h1 | exact absurd rfl h2
theorem zcW(h:kO H q xs):∀v∈xs,yY v=true\/∃p zs,v= .ref p/\SqT K H p zs:=by
 cases q with
 | pick c q=>
  obtain⟨x,rfl,hc⟩:=h;obtain⟨p,ys,rfl,hp⟩:=kR hc;intro v m;simp only [wH,qz,QD]at m;rcases m with rfl | rfl
  ·exact .inl rfl
  ·exact .inr ⟨p,!(SqT.of hp)⟩
 | cols ns q=>
  obtain⟨x,rfl,d⟩:=h;intro v m;simp only [wH,qz,QD]at m;rcases m with rfl | rfl
  ·exact .inl rfl
  ·exact .inr ⟨x,!(SqT.of d)⟩
 | table n=>
  intro v m;rw [show xs=_ from h]at m;simp only [wH,qz,QD]at m;rcases m with rfl | rfl <;> exact .inl rfl
 | pair q r=>
  intro v m;rw [show xs=_ from h]at m;simp only [wH,qz,QD]at m;rcases m with rfl <;> exact .inl rfl
 | join a b q r=>
  intro v m;rw [show xs=_ from h]at m;simp only [wH,qz,QD]at m;rcases m with rfl | rfl | rfl <;> exact .inl rfl
 | both q r=>
  intro v m;rw [show xs=_ from h]at m;simp only [wH,qz,QD]at m;rcases m with rfl <;> exact .inl rfl
 | first n q=>
  intro v m;rw [show xs=_ from h]at m;simp only [wH,qz,QD]at m;rcases m with rfl | rfl <;> exact .inl rfl
 | group a b n s q=>
  intro v m;rw [show xs=_ from h]at m;simp only [wH,qz,QD]at m;rcases m with rfl | rfl | rfl | rfl | rfl <;> exact .inl rfl
 | sort a q=>
  intro v m;rw [show xs=_ from h]at m;simp only [wH,qz,QD]at m;rcases m with rfl | rfl <;> exact .inl rfl
theorem zcd{a:Str}(h:kO H q xs):xs=(["sort",a]:List Str).map V.str↔∃r,q= .sort a r:=by
 constructor
 ·intro e;obtain⟨r,c⟩:=z0u h;rw [e]at c;have d:j9 q="sort":=by
   have:=(List.cons.inj c).1
   injection this with this
   exact this.symm
  obtain⟨b,t,rfl⟩:=z1f d;rw [show xs=_ from h]at e;have:=(List.cons.inj (List.cons.inj e).2).1
  injection this with this
  rw [this];exact⟨t,rfl⟩
 ·rintro⟨r,rfl⟩;exact h
inductive spTurned (C:Addr) (vs:List V) (H:Hp) (Q:VK) (E:XK):Prop
 | mk:∀th q v,vs= [v]->wfQ th q->jR th C H q v->zac th C H (yc th q) Q->spTurned C vs H Q E
theorem z5l:FnScope ["place","word"] ["place"] (zm z4E):=by walk_at "s"
theorem z9b(F:Fun K "turned" "turned" z4E f fd)(T:Txt K mg)(j:PC K C)(o:KnC P w K mg base 1 "Place" ["self","ahead","heads","within"] (spPInit K C) C)(i:Kn P w K mg base 8 "turned_pick" ["place"] (spTurnedPick C))(d:Kn P w K mg base 3 "turned_first" ["place"] (spTurnedFirst C)):FnOk P w K mg base CX0 9 f fd ["place"] (spTurned C):=by
 refine F.okB z5l (λvs H Q E h=> ?_) (λvs H Q E h=> ?_)
 ·obtain⟨th,q,v,rfl,_⟩:=h
  rfl
 obtain⟨th,q,v,rfl,wf,hp,s,p⟩:=h;obtain⟨ws,⟨a,ah,hd,wl,dx,qv,b,xs,rfl,nd⟩,B⟩:=zU.mp hp;obtain⟨Y,J⟩:=z0u nd.ahx;intro ad A outer X hr;have G:=z1x hr;refine⟨_,(zc (seT 1 z5l (ixT (zE v0 rfl) zd))
  (zc (zC (cmT zM v1 zi)
   (zg (zt (zW i hr.m (zf v0 zb))))
   zu)
  (zc (zC (cmT zM v1 zi)
   (zg (zt (zW d hr.m (zf v0 zb))))
   zu)
  (zc (zC (PW.pt (z0d (cmT zM v1 zi) (kW (cmT zM (ixT (zE (ixL (zE v0 rfl) zd) rfl) zd) zi))))
   (zg (zt (yt o hr.m rfl (zO (zE v0 rfl) (zO (zE v0 rfl) (zO (zE (ixL (zE v0 rfl) zd) rfl) zb))))))
   zu)
  (zc (zC (PW.pt (z0d (cmT zM v1 zi) (kW (cmT (z6q (K:=K) rfl G) (zE (ixL (zE v0 rfl) zd) rfl) (zE v0 rfl)))))
   (zg (zt (ixL (zE v0 rfl) zd)))
   zu)
  (zg (zt z2v))))))),?_⟩
 generalize hK0:K=K1;generalize hK1:C=C1
 revert C1
 revert K1
 refine z0i (by walk_at "cl") ?_;refine !(yJ j nd.me (zh nd.ahd (by rw [J];exact zF) ?_));refine !⟨rfl,!?_⟩;rw [zV];by_cases h1:j9 q="pick"
 ·refine ifT (wS h1) ?_;obtain⟨c,r,rfl⟩:=yT h1;exact !⟨th,c,r,_,rfl,wf.1,wf.2.1,hp,s,p⟩
 refine ifF (wL h1) ?_;refine !⟨rfl,!?_⟩;rw [zV];by_cases h2:j9 q="first"
 ·refine ifT (wS h2) ?_;obtain⟨n,r,rfl⟩:=z0J h2;exact !⟨th,n,r,_,rfl,hp,s,p⟩
 refine ifF (wL h2) ?_;refine !⟨rfl,!?_⟩;rw [zV];by_cases h3:j9 q="cols"
 ·refine ifT (wS h3) ?_;obtain⟨ns,r,rfl⟩:=kM h3;obtain⟨w2,O,rfl,u,rfl⟩:=id B;obtain⟨us,⟨a2,D,M,L,N,R,b2,y,rfl,l⟩,z⟩:=zU.mp u;obtain⟨U,I⟩:=z0u l.ahx;refine !(yW j nd.me (zx nd.wit zF (yJ j l.me (zh l.ahd (by rw [I];exact zF) ⟨rfl,!?_⟩))));rw [zV];by_cases h4:j9 r="cols"
  ·refine ifT (wS h4) ?_;obtain⟨S,t,rfl⟩:=kM h4;refine !(yJ j nd.me (!(z0Q j nd.me (!(yW j nd.me (zx nd.wit zF (yW j l.me ?_)))))));exact jI (q:= .cols ns t) (xs:=xs) nd.ahd nd.ahx nd.hds l.wit z λx aj aQ H' s' _ _ pl=>s _ rfl x H' s' pl
  ·refine ifF (wL h4) ?_;refine !⟨rfl,!?_⟩;rw [zV];refine ifF (wL (nb (by kernel_rfl))) ?_;refine p ?_ H (zz.refl _);cases r <;> first | rfl | exact absurd rfl h4
 refine ifF (wL h3) ?_;refine !⟨rfl,!?_⟩;rw [zV];by_cases h4:j9 q="sort"
 ·refine ifT (wS h4) ?_;obtain⟨n,r,rfl⟩:=z1f h4;obtain⟨w2,O,rfl,u,rfl⟩:=id B;obtain⟨us,⟨a2,D,M,L,N,R,b2,y,rfl,l⟩,z⟩:=zU.mp u;have ex:xs=(["sort",n]:List Str).map V.str:=nd.ahx;refine !(yW j nd.me (zx nd.wit zF (yJ j l.me (!(yJ j nd.me ⟨D,ah,y,["sort",n],rfl,rfl,SqT.of l.ahd,SqT.of (by rw [<-ex];exact nd.ahd),zcW l.ahx,λt ht=>!?_⟩)))));have hs:=zcd (a:=n) l.ahx;by_cases h5:t=true
  ·refine ifT h5 ?_;obtain⟨t',rfl⟩:=hs.mp (ht.mp h5);refine !(yW j nd.me (zx nd.wit zF ?_));exact s (.sort n t') (by show(if n=n then _ else _)=_;rw [wY rfl]) a2 H (zz.refl _) u
  ·refine ifF (Qi.mpr h5) ?_;refine p ?_ H (zz.refl _);cases r with
   | sort m t'=>
    show(if m=n then _ else _)=_
    rw [wU λe=>h5 (ht.mpr (hs.mpr ⟨t',by rw [e]⟩))]
   | _=>rfl
 refine ifF (wL h4) ?_;refine p ?_ H (zz.refl _);cases q <;> first | rfl | exact absurd rfl h1 | exact absurd rfl h2 | exact absurd rfl h3 | exact absurd rfl h4
theorem z7g(h:j9 q="table"):∃n,q= .table n:=by
 cases q <;> first | exact⟨_,rfl⟩ | exact absurd h (qj (by kernel_rfl))
theorem z85(h:j9 q="pair"):∃r s,q= .pair r s:=by
 cases q <;> first | exact⟨_,_,rfl⟩ | exact absurd h (qj (by kernel_rfl))
theorem z7P(h:j9 q="join"):∃a b r s,q= .join a b r s:=by
 cases q <;> first | exact⟨_,_,_,_,rfl⟩ | exact absurd h (qj (by kernel_rfl))
theorem z7q(h:j9 q="both"):∃r s,q= .both r s:=by
 cases q <;> first | exact⟨_,_,rfl⟩ | exact absurd h (qj (by kernel_rfl))
theorem z6M(h:j9 q="group"):∃a b n s r,q= .group a b n s r:=by
 cases q <;> first | exact⟨_,_,_,_,_,rfl⟩ | exact absurd h (qj (by kernel_rfl))
theorem z6N:∀{ns a:List Str},ns.map V.str=a.map V.str->ns=a
 | [],[],_=>rfl
 | [],_ :: _,h=>by cases h
 | _ :: _,[],h=>by cases h
 | n :: ns,m :: a,h=>by
  rw [qK,qK]at h
  injection h with h1 h2
  injection h1 with h1
  rw [h1,z6N h2]
theorem z34{a b:Side}(h:a.v=b.v):a=b:=by
 cases a <;> cases b <;> first | (injection h with h;rw [h]) | cases h
theorem z19{d:Cond}{v:V}(h:zG H c v)(g:zG H d v):wordOf c=wordOf d:=by
 obtain⟨p,ys,rfl,hp⟩:=kR h;obtain⟨p',a,e,aa⟩:=kR g;cases e;rw [hp]at aa
 injection aa with aa
 injection aa with aa
 injection aa with aa _
 injection aa with aa
theorem zai:∀{d:Cond} {v:V},zG H c v->zG H d v->c=d:=by
 induction c with
 | less a b=>
  intro d' v h g;have f:=z19 h g;cases d' with
  | less a' b'=>
   obtain⟨p,rfl,hp⟩:=h;obtain⟨p',e,aa⟩:=g;cases e;rw [hp]at aa
   injection aa with aa
   injection aa with aa
   injection aa with _ aa
   injection aa with h1 aa
   injection aa with h2 _
   rw [z34 h1,z34 h2]
  | _=>exact absurd f (qj (by kernel_rfl))
 | same a b=>
  intro d' v h g;have f:=z19 h g;cases d' with
  | same a' b'=>
   obtain⟨p,rfl,hp⟩:=h;obtain⟨p',e,aa⟩:=g;cases e;rw [hp]at aa
   injection aa with aa
   injection aa with aa
   injection aa with _ aa
   injection aa with h1 aa
   injection aa with h2 _
   rw [z34 h1,z34 h2]
  | _=>exact absurd f (qj (by kernel_rfl))
 | no c r=>
  intro d' v h g;have f:=z19 h g;cases d' with
  | no c'=>
   obtain⟨p,x,rfl,hp,h1⟩:=h;obtain⟨p',o,e,aa,l⟩:=g;cases e;rw [hp]at aa
   injection aa with aa
   injection aa with aa
   injection aa with _ aa
   injection aa with e1 _
   subst e1;rw [r h1 l]
  | _=>exact absurd f (qj (by kernel_rfl))
 | an c d i j=>
  intro d' v h g;have f:=z19 h g;cases d' with
  | an c' d'=>
   obtain⟨p,x,y,rfl,hp,h1,h2⟩:=h;obtain⟨p',o,q,e,aa,l,n⟩:=g;cases e;rw [hp]at aa
   injection aa with aa
   injection aa with aa
   injection aa with _ aa
   injection aa with e1 aa
   injection aa with e2 _
   subst e1 e2;rw [i h1 l,j h2 n]
  | _=>exact absurd f (qj (by kernel_rfl))
 | or c d i j=>
  intro d' v h g;have f:=z19 h g;cases d' with
  | or c' d'=>
   obtain⟨p,x,y,rfl,hp,h1,h2⟩:=h;obtain⟨p',o,q,e,aa,l,n⟩:=g;cases e;rw [hp]at aa
   injection aa with aa
   injection aa with aa
   injection aa with _ aa
   injection aa with e1 aa
   injection aa with e2 _
   subst e1 e2;rw [i h1 l,j h2 n]
  | _=>exact absurd f (qj (by kernel_rfl))
theorem z69{v:V}(h:QAt H q v):∃p xs kv,v= .ref p/\H p=some (.tup (xs ++ kv))/\kO H q xs/\yv H (kids q) kv:=by
 cases q with
 | table n=>obtain⟨p,rfl,hp⟩:=h;exact⟨p,_,[],rfl,hp,rfl,rfl⟩
 | pick c q=>obtain⟨p,x,y,rfl,hp,e,d⟩:=h;exact⟨p,[_,_],[y],rfl,hp,⟨x,rfl,e⟩,y,[],rfl,d,rfl⟩
 | cols ns q=>obtain⟨p,x,y,rfl,hp,e,d⟩:=h;exact⟨p,[_,_],[y],rfl,hp,⟨x,rfl,e⟩,y,[],rfl,d,rfl⟩
 | first n q=>obtain⟨p,y,rfl,hp,d⟩:=h;exact⟨p,[_,_],[y],rfl,hp,rfl,y,[],rfl,d,rfl⟩
 | group a b n s q=>obtain⟨p,y,rfl,hp,d⟩:=h;exact⟨p,[_,_,_,_,_],[y],rfl,hp,rfl,y,[],rfl,d,rfl⟩
 | sort a q=>obtain⟨p,y,rfl,hp,d⟩:=h;exact⟨p,[_,_],[y],rfl,hp,rfl,y,[],rfl,d,rfl⟩
 | pair q r=>obtain⟨p,x,y,rfl,hp,e,d⟩:=h;exact⟨p,[_],[x,y],rfl,hp,rfl,x,[y],rfl,e,y,[],rfl,d,rfl⟩
 | join a b q r=>obtain⟨p,x,y,rfl,hp,e,d⟩:=h;exact⟨p,[_,_,_],[x,y],rfl,hp,rfl,x,[y],rfl,e,y,[],rfl,d,rfl⟩
 | both q r=>obtain⟨p,x,y,rfl,hp,e,d⟩:=h;exact⟨p,[_],[x,y],rfl,hp,rfl,x,[y],rfl,e,y,[],rfl,d,rfl⟩
theorem z0q{v:V}(h:QAt H q v)(g:QAt H r v):j9 r=j9 q:=by
 obtain⟨p,xs,kv,rfl,hp,ha,_⟩:=z69 h;obtain⟨p',c,d,e,aa,a,_⟩:=z69 g;cases e;obtain⟨z,rfl⟩:=z0u ha;obtain⟨b,rfl⟩:=z0u a;rw [hp,List.cons_append,List.cons_append]at aa
 injection aa with aa
 injection aa with aa
 injection aa with aa _
 injection aa with aa
 exact aa.symm
theorem zdb:∀{r:Qn} {v:V},QAt H q v->QAt H r v->q=r:=by
 induction q with
 | table n=>
  intro r' v h g;obtain⟨u,rfl⟩:=z7g (z0q h g);obtain⟨p,rfl,hp⟩:=h;obtain⟨p',e,aa⟩:=g;cases e;rw [hp]at aa;cases aa
  rfl
 | pick c q l=>
  intro r' v h g;obtain⟨c',q',rfl⟩:=yT (z0q h g);obtain⟨p,x,y,rfl,hp,h1,h2⟩:=h;obtain⟨p',t,o,e,aa,f,d⟩:=g;cases e;rw [hp]at aa;cases aa;rw [zai h1 f,l h2 d]
 | cols ns q l=>
  intro r' v h g;obtain⟨w,q',rfl⟩:=kM (z0q h g);obtain⟨p,x,y,rfl,hp,h1,h2⟩:=h;obtain⟨p',t,o,e,aa,f,d⟩:=g;cases e;rw [hp]at aa;cases aa;rw [h1]at f
  injection f with f
  injection f with f
  rw [z6N f,l h2 d]
 | pair q r i j=>
  intro r' v h g;obtain⟨q',r',rfl⟩:=z85 (z0q h g);obtain⟨p,x,y,rfl,hp,h1,h2⟩:=h;obtain⟨p',t,o,e,aa,f,d⟩:=g;cases e;rw [hp]at aa;cases aa;rw [i h1 f,j h2 d]
 | join a b q r i j=>
  intro r' v h g;obtain⟨a',b',q',r',rfl⟩:=z7P (z0q h g);obtain⟨p,x,y,rfl,hp,h1,h2⟩:=h;obtain⟨p',t,o,e,aa,f,d⟩:=g;cases e;rw [hp]at aa;cases aa;rw [i h1 f,j h2 d]
 | both q r i j=>
  intro r' v h g;obtain⟨q',r',rfl⟩:=z7q (z0q h g);obtain⟨p,x,y,rfl,hp,h1,h2⟩:=h;obtain⟨p',t,o,e,aa,f,d⟩:=g;cases e;rw [hp]at aa;cases aa;rw [i h1 f,j h2 d]
 | first n q l=>
  intro r' v h g;obtain⟨u,q',rfl⟩:=z0J (z0q h g);obtain⟨p,y,rfl,hp,h2⟩:=h;obtain⟨p',o,e,aa,d⟩:=g;cases e;rw [hp]at aa;cases aa;rw [l h2 d]
 | group a b n s q l=>
  intro r' v h g;obtain⟨a',b',u,s',q',rfl⟩:=z6M (z0q h g);obtain⟨p,y,rfl,hp,h2⟩:=h;obtain⟨p',o,e,aa,d⟩:=g;cases e;rw [hp]at aa;cases aa;rw [l h2 d]
 | sort a q l=>
  intro r' v h g;obtain⟨a',q',rfl⟩:=z1f (z0q h g);obtain⟨p,y,rfl,hp,h2⟩:=h;obtain⟨p',o,e,aa,d⟩:=g;cases e;rw [hp]at aa;cases aa;rw [l h2 d]
theorem NodeAt.ev{a hd:Addr}{b1:Bool}(e:Ev th C H H1)(h:NodeAt th C H q a ws ah hd wl dx qv b xs)(h1:H1 a=some (.ins C dx (jF ah hd wl qv b1)))(o:b1=b\/nf th q):NodeAt th C H1 q a ws ah hd wl dx qv b1 xs:=by
 have c:∀b xs,H b=some (.tup xs)->H1 b=some (.tup xs):=λb xs z=>e.tup z
 refine⟨h1,e.tup h.ahd,h.ahx.mono c,e.lst h.hds,e.lst h.wit,h.qst.mono c,λz=> ?_⟩;rcases o with rfl | o
 ·exact h.set z
 ·exact o
def Ev.refl(H:Hp):Ev th C H H:=Ev.of (Nt.refl H)
theorem Ev.trans(x:Ev th C H H1)(y:Ev th C H1 H2):Ev th C H H2:=by
 refine⟨λb o e n m=>y.t b o (x.t b o e n m) n m,λa dx ah hd wl qv b e=> ?_⟩;obtain⟨b1,c,o1⟩:=x.n a dx ah hd wl qv b e;obtain⟨b2,d,o2⟩:=y.n a dx ah hd wl qv b1 c;refine⟨b2,d,?_⟩;rcases o2 with rfl | ⟨rfl,o2⟩
 ·exact o1
 ·refine .inr ⟨rfl,λq ws xs nd=> ?_⟩;refine o2 q ws xs (nd.ev x c ?_);rcases o1 with rfl | ⟨_,o1⟩
  ·exact .inl rfl
  ·exact .inr (o1 q ws xs nd)
theorem z9D{a hd:Addr}(h:NodeAt th C H q a ws ah hd wl dx qv b xs)(n:nf th q):Ev th C H (upd H a (.ins C dx (jF ah hd wl qv true))):=by
 refine⟨λb' o e _ m=> ?_,λa' aj f d bL aQ b' e=> ?_⟩
 ·rw [zn λz=>by rw [z,h.me]at e;cases e;exact m _ _ _ rfl];exact e
 ·by_cases z:a'=a
  ·subst z;rw [h.me]at e;have c:dx=aj/\ah=f/\hd=d/\wl=bL/\qv=aQ/\b=b':=by
    unfold jF at e;simp only [Option.some.injEq,HO.ins.injEq,List.cons.injEq,Prod.mk.injEq,true_and,and_true,V.ref.injEq,V.bl.injEq]at e;exact e
   obtain⟨rfl,rfl,rfl,rfl,rfl,rfl⟩:=c;exact⟨true,zl,.inr ⟨rfl,λq' i j nd=>by rw [zdb nd.qst h.qst];exact n⟩⟩
  ·exact⟨b',by rw [zn z];exact e,.inl rfl⟩
def z3Q(C:Addr)(H:Hp)(u:V):Prop:=∃a dx ah hd wl qv,u= .ref a/\H a=some (.ins C dx (jF ah hd wl qv true))
theorem z3Q.ev(e:Ev th C H H1)(h:z3Q C H u):z3Q C H1 u:=by
 obtain⟨a,dx,ah,hd,wl,qv,rfl,h⟩:=h;obtain⟨b,h1,o⟩:=e.n a dx ah hd wl qv true h;have:b=true:=by
  rcases o with o | o
  ·exact o
  ·exact o.1
 subst this;exact⟨a,dx,ah,hd,wl,qv,rfl,h1⟩
theorem z3Q.nf{q:Qn}{u:V}(h:z3Q C H u)(p:jR th C H q u):nf th q:=by
 obtain⟨a,dx,ah,hd,wl,qv,rfl,h⟩:=h;obtain⟨ws,⟨a',d,c,bL,aj,aQ,b,xs,e,nd⟩,_⟩:=zU.mp p;cases e;have e:=nd.me;rw [h]at e;have:b=true:=by
  unfold jF at e;simp only [Option.some.injEq,HO.ins.injEq,List.cons.injEq,Prod.mk.injEq,true_and,and_true,V.ref.injEq,V.bl.injEq]at e;exact e.2.2.2.2.2.symm
 exact nd.set this
def PlJ(th:Str->List Str)(C:Addr)(H:Hp)(q:Qn)(v:V)(j:Nat):Prop:=∃ws,Node th C H q v ws/\jS th C H (kids q) ws/\∀u∈ws.take j,z3Q C H u
theorem PlJ.of{v:V}(h:jR th C H q v):PlJ th C H q v 0:=by
 obtain⟨ws,h1,h2⟩:=zU.mp h;exact⟨ws,h1,h2,λu m=>by rw [w0A]at m;cases m⟩
theorem PlJ.pl{v:V}(h:PlJ th C H q v j):jR th C H q v:=by
 obtain⟨ws,h1,h2,_⟩:=h;exact zU.mpr ⟨ws,h1,h2⟩
theorem PlJ.ev{v:V}(e:Ev th C H H1)(h:PlJ th C H q v j):PlJ th C H1 q v j:=by
 obtain⟨ws,h1,h2,a⟩:=h;exact⟨ws,h1.ev e,h2.ev e,λu m=>(a u m).ev e⟩
def z6d(th:Str->List Str)(C:Addr)(H:Hp):List (Qn×Nat)->List V->Prop
 | [],vs=>vs= []
 | (p,i) :: c,vs=>∃a v us,vs= .ref a :: us/\H a=some (.tup [v,.int (i:Int)])/\PlJ th C H p v i/\z6d th C H c us
theorem z6d.ev(e:Ev th C H H1):∀{c:List (Qn×Nat)} {vs:List V},z6d th C H c vs->z6d th C H1 c vs
 | [],_,h=>h
 | (p,i) :: c,_,⟨a,v,us,b,h1,h2,d⟩=>⟨a,v,us,b,e.tup h1,h2.ev e,d.ev e⟩
theorem z6d.len:∀{c:List (Qn×Nat)} {vs:List V},z6d th C H c vs->vs.length=c.length
 | [],_,h=>by rw [show _= []from h];rfl
 | (p,i) :: c,_,⟨a,v,us,b,_,_,d⟩=>by rw [b,wP,wP,d.len]
theorem z6d.at:∀{c:List (Qn×Nat)} {vs:List V} {j:Nat} {x:V},z6d th C H c vs->vs[j]? =some x->∃p i a v,c[j]? =some (p,i)/\x= .ref a/\H a=some (.tup [v,.int (i:Int)])/\jR th C H p v
 | [],_,_,_,h,e=>by rw [show _= []from h]at e;cases e
 | (p,i) :: c,_,0,_,⟨a,v,us,b,h1,h2,d⟩,e=>by subst b;cases e;exact⟨p,i,a,v,rfl,rfl,h1,h2.pl⟩
 | (p,i) :: c,_,j + 1,_,⟨a,v,us,b,h1,h2,d⟩,e=>by
  subst b;obtain⟨p',f,a',v',z⟩:=d.at (j:=j) (by simpa using e);exact⟨p',f,a',v',by simpa using z.1,z.2⟩
theorem ye:zz (hid H d) H:=λb o e=>by
 by_cases z:b=d
 ·rw [z,yE]at e;cases e
 ·rw [jt z]at e;exact e
theorem z0w(h:zz H H'):zz (hid H d) (hid H' d):=λb o e=>by
 by_cases z:b=d
 ·rw [z,yE]at e;cases e
 ·rw [jt z]at e ⊢;exact h b o e
theorem z2a{x:Addr}(n:x≠d):hid (upd H x o) d=upd (hid H d) x o:=by
 funext b
 by_cases z:b=d
 ·subst z;rw [yE,zn n.symm,yE]
 ·rw [jt z];by_cases y:b=x
  ·subst y;rw [zl,zl]
  ·rw [zn y,zn y,jt z]
theorem z1I:hid (upd H d o) d=hid H d:=by
 funext b
 by_cases z:b=d
 ·subst z;rw [yE,yE]
 ·rw [jt z,jt z,zn z]
theorem zcV(hd:H d=some (.lst ys)):∀b xs,H b=some (.tup xs)->hid H d b=some (.tup xs):=λb xs e=>by
 rw [jt λz=>by rw [z,hd]at e;cases e];exact e
theorem z5W{x:Addr}{fs gs:List (Str×V)}(h:H x=some (.ins D dx fs))(n:∀ah hd wl qv b,fs≠jF ah hd wl qv b):Ev th C H (upd H x (.ins D dx gs)):=by
 refine⟨λb o e _ m=> ?_,λa aj ah hd wl qv b e=>⟨b,?_,.inl rfl⟩⟩
 ·rw [zn λz=>by rw [z,h]at e;cases e;exact m _ _ _ rfl];exact e
 ·rw [zn λz=>by rw [z,h]at e;injection e with e;injection e with _ _ e;exact n _ _ _ _ _ e];exact e
noncomputable def trF(v:V)(al:Addr):List (Str×V):= [("place",v),("above",.ref al)]
theorem z4p{v:V}:∀ah hd wl qv b,trF v al≠jF ah hd wl qv b:=λ_ _ _ _ _ h=>by
 unfold trF jF at h
 injection h with _ h
 injection h with _ h
 cases h
structure TC(K:W.Frag)(D:Addr):Prop where
 cls:Cls K D
 pl:NoAttr K D "place"
 ab:NoAttr K D "above"
theorem zeL{v:V}:yK "place" v []=([("place",v)]:List (Str×V)):=rfl
theorem zf9{v:V}:yK "above" (.ref al) ([("place",v)]:List (Str×V))=trF v al:=by simp [yK,trF,show("place":Str)≠"above" by decide +kernel]
theorem zaV{v v':V}:yK "place" v' (trF v al)=trF v' al:=by simp [yK,trF]
def zcD{v:V}:(trF v al).lookup ("place":Str)=some v:=rfl
theorem zbO{v:V}:(trF v al).lookup ("above":Str)=some (V.ref al):=by rfl
def z5m{v:V}(b:TC K D)(h:H t=some (.ins D dx (trF v al)))(q:Q v):∃a' a aj fs v',V.ref t= .ref a'/\H a'=some (.ins a aj fs)/\Cls K a/\NoAttr K a "place"/\fs.lookup ("place":Str)=some v'/\Q v':=⟨t,D,dx,_,_,rfl,h,b.cls,b.pl,zcD,q⟩
def z8I{v:V}(b:TC K D)(h:H t=some (.ins D dx (trF v al)))(q:Q (.ref al)):∃a' a aj fs v',V.ref t= .ref a'/\H a'=some (.ins a aj fs)/\Cls K a/\NoAttr K a "above"/\fs.lookup ("above":Str)=some v'/\Q v':=⟨t,D,dx,_,_,rfl,h,b.cls,b.ab,zbO,q⟩
structure TrAt(th:Str->List Str)(C D:Addr)(H:Hp)(t al:Addr)(c:List (Qn×Nat))(q:Qn)(v:V)(dx:Addr)(vs:List V):Prop where
 me:H t=some (.ins D dx (trF v al))
 ab:H al=some (.lst vs.reverse)
 up:z6d th C (hid H al) c vs
 pl:jR th C (hid H al) q v
def zbo{th:Str->List Str}{C:Addr}{H:Hp}:∀{qs:List Qn} {ws:List V},z1i (λr u H=>jR th C H r u) H qs ws->jS th C H qs ws
 | [],_,h=>h
 | _ :: _,_,⟨v,ws,e,h1,h2⟩=>⟨v,ws,e,h1,zbo h2⟩
inductive spPlaceOver (C:Addr) (vs:List V) (H:Hp) (Q:VK) (E:XK):Prop
 | mk:∀th tr q v tp wl ws,vs= [.ref tp,v,.ref wl]->TabOk th tr->jz th tr H tp->QAt H q v->wfQ th q->H wl=some (.lst ws)->jS th C H (kids q) ws->(∀(x:Addr) (H':Hp),zz H H'->jR th C H' q (.ref x)->Q (.ref x) H')->spPlaceOver C vs H Q E
theorem z2l:FnScope ["tables","question","within","heads"] ["tables","question","within"] (zm z0p):=by walk_at "s"
theorem z55(F:Fun K "place_over" "place_over" z0p f fd)(T:Txt K mg)(Y:PC K C)(d:KnC P w K mg base 1 "Place" ["self","ahead","heads","within"] (spPInit K C) C)(c:Kn P w K mg base 3 "heads_at" ["tables","question","within"] (spHeadsAt K)):FnOk P w K mg base CX0 4 f fd ["tables","question","within"] (spPlaceOver C):=by
 refine F.okB z2l (λvs H Q E h=> ?_) (λvs H Q E h=> ?_)
 ·obtain⟨th,tr,q,v,tp,wl,ws,rfl,_⟩:=h
  rfl
 obtain⟨th,tr,q,v,tp,wl,ws,rfl,TT,h4,hq,wf,t,B,fin⟩:=h;obtain⟨p,xs,kv,rfl,hp,D,A9⟩:=z69 hq;have hl:=B.len;have aD:=A9.len;have lk:=z2T q;have la:=z4M D;intro ad A outer sh hr;refine⟨_,(zc (seT 3 z2l (zW c hr.m (zf v0 (zf v1 (z1u (yI rfl (CompSc.of (sx:=zm z0p) (NX:= ["tables","question","within","heads"]) (fr:= []) (ix:= []) rfl rfl (by decide +kernel)) (jb v2) (λ_ _ _ _ _ _=>jZ) (λ_ _ _ _ _ _=>(z3U (K:=K) rfl v0 rfl))) zb)))))
  (zg (zt (yt d hr.m rfl (zj (jc z8r v1 jx (jk (zr z3a (leN T.len (zf v1 zb)) (leN T.len (zf v2 zb))))) (zf v3 (zf v2 zb))))))),?_⟩
 generalize hK0:K=K1;generalize hK1:C=C1
 revert C1
 revert K1
 refine z0i (by walk_at "cl") ?_;refine !(!(!⟨wl,rfl,⟨_,SqL.of t⟩,?_⟩));refine jH (xs:=ws) (λi ys H'=>H'=H/\ys.length=i/\z1i (zf0 th) H ((kids q).take i) ys) ⟨rfl,rfl,by rw [w0A];rfl⟩ ?_ ?_ ?_
 ·rintro i ys H' hi ⟨rfl,o,_⟩;exact⟨SqL.of t,zK (by lia)⟩
 ·rintro i y ys H' hi ⟨rfl,o,hr⟩;have J:i < (kids q).length:=by rw [<-hl];exact(wk.mp hi).1
  obtain⟨v,G,pv⟩:=B.at (we J);rw [hi]at G;cases G;obtain⟨us,⟨a,cX,M,bL,aj,qv,b,ci,rfl,nd⟩,_⟩:=zU.mp pv;refine !(z0Q Y nd.me ⟨rfl,by rw [wg,o];rfl,?_⟩);rw [q5,we J];exact hr.app ⟨.ref M,[],rfl,⟨M,rfl,nd.hds⟩,rfl⟩
 ·rintro ys H' ⟨rfl,o,hr⟩ np R;rw [hl,qH]at hr;refine ze (upd _ np _) rfl R λH1 n x1=> ?_
  refine⟨th,tr,q,.ref p,tp,np,ys,rfl,TT,h4.same n,hq.same n,wf,x1,hr.imp λr u ⟨hp,e,z⟩=>⟨hp,e,n _ _ z⟩,λaa H2 U L=> ?_⟩;have s2:=n.trans U;have j:=s2 _ _ hp;have s:=s2 _ _ t;refine !(!⟨p,!⟨.inr (SqT.of j),!⟨wl,!⟨.inl (SqL.of s),ex2 rfl rfl (!?_)⟩⟩⟩⟩);have e:HT.sIx (xs ++ kv).length (xs ++ kv).length (some (((xs ++ kv).length:Int) - (ws.length:Int)))=xs.length:=by
   show(if((xs ++ kv).length:Int) - (ws.length:Int) < 0 then _ else min (((xs ++ kv).length:Int) - (ws.length:Int)).toNat (xs ++ kv).length)=_
   rw [wg,wU (by lia)]
   lia
  have I:=B.ev (Ev.of (Nt.of s2));have N:kO H2 q xs:=D.mono λb xs z=>s2 _ _ z
  by_cases hz:kv= []
  ·subst hz;refine .inr ⟨p,!⟨SqT.of j,⟨rfl,by rw [e,Q3]⟩,?_⟩⟩;rw [Q3]at j;refine !(!?_);exact jI (q:=q) (xs:=xs) j N L s I λx aj aQ H' s' _ _ pl=>fin x H' (s2.trans s') pl
  ·refine .inl ⟨p,!⟨SqT.of j,λz=>hz ?_,λtO S=> ?_⟩⟩
   ·have:=z.2;rw [e,wg]at this;exact QJ.mp (by lia)
   ·have O:z0H (xs ++ kv) none (some (((xs ++ kv).length:Int) - (ws.length:Int)))=xs:=by
     unfold z0H;rw [e]
     show((xs ++ kv).drop 0).take (xs.length - 0)=xs
     rw [w1a,Nat.sub_zero,List.take_left']
     rfl
    rw [O];refine ze (upd _ tO _) rfl S λH3 l X=> ?_
    have Z:=s2.trans l;refine !(!?_);exact jI (q:=q) (xs:=xs) X (N.mono λb xs z=>l _ _ z) (l _ _ L) (l _ _ s) (I.ev (Ev.of (Nt.of l))) λx aj aQ H' s' _ _ pl=>fin x H' (Z.trans s') pl
noncomputable def zav:Pos:=match yq z00 with
 | .Assign _ (.Call _ [_,.Lambda _ _ _ p] _ _) _ :: _=>p
 | _=>⟨0,0,0,0⟩
noncomputable abbrev zb7:Str:=Str.ofString "Turner.__init__" ++ ".<locals>." ++ "<lambda>"
inductive spTInit (C D T4:Addr) (vs:List V) (H:Hp) (Q:VK) (E:XK):Prop
 | mk:∀th tr q v x dx tp,vs= [.ref x,.ref tp,v]->H x=some (.ins D dx [])->TabOk th tr->jz th tr H tp->QAt H q v->wfQ th q->(post q).length<=8000000->z1P H T4 zav zb7->(∀(v':V) (al:Addr) (H':Hp),(∀b o,b≠x->H b=some o->(∀ps,o≠ .tbl ps)->hid H' al b=some o)->TrAt th C D H' x al [] q v' dx []->Q .non H')->spTInit C D T4 vs H Q E
theorem z4f:FnScope ["self","tables","question"] ["self","tables","question"] (zm z00):=by walk_at "s"
theorem z4z{c:Addr}(F:Fun K "__init__" "Turner.__init__" z00 f fd)(T:Txt K mg)(t:TC K D)(hc:fd.code= .ref c)(U:PySem.W.CodeHd base c T4)(B:base.BuiltinsAt mg T4)(i:KnS P w K mg base CX0 9 "built_up" ["question","work"] (z87 P w K mg base 8))(d:Kn P w K mg base 4 "place_over" ["tables","question","within"] (spPlaceOver C)):FnOk P w K mg base CX0 10 f fd ["self","tables","question"] (spTInit C D T4):=by
 refine F.okC z4f (λvs H Q E h=> ?_) (λA outer s H vs Q E hr h=> ?_)
 ·obtain⟨th,tr,q,v,x,dx,tp,rfl,_⟩:=h
  rfl
 obtain⟨th,tr,q,v,x,dx,tp,rfl,hx,TT,h4,hq,wf,hsz,N,fin⟩:=h;refine⟨_,(zc (z0y (pv 0) (z7u (k:=4) (T:=T4) (c:=c) (j:=1) (a:="part") (b:="within") (y:="tables") i z3B hr rfl (pv 2) hc U B ⟨rfl,rfl,rfl,rfl,rfl,rfl,by decide +kernel,by decide +kernel,by decide +kernel⟩ (w02 rfl) rfl
  (λ_ _ _ _ _ _ _ _ hl=>z6F d hl rfl (zf (pv 2) (zf (pv 0) (zf (pv 1) zb))))) rfl) (zg (z0y (pv 0) (zw zb) rfl))),?_⟩
 refine !⟨N,.ref tp,rfl,λlf c' H2 s2 k2 iu W=> ?_⟩;have G:=zeY N k2;refine⟨v,q,lf,_,λ_=>True,λr u H=>jR th C H r u,rfl,hq.nt G,hsz,W.mono (by decide),trivial,λ_ _ _ _=>trivial,λr u H1 H2 n z=>z.ev (Ev.of n),λr R L wl ws H3 Q1 n3 L3 Z X rs k=> ?_,λv' H' n' L' z=> ?_⟩
 ·exact⟨L,.ref wl,rfl,!(!(!⟨th,tr,r,L,tp,wl,ws,rfl,TT,h4.nt (G.trans n3),Z,zcO wf r R,X,zbo rs,λx H4 n4 S=>k _ _ (Nt.of n4) trivial S⟩))⟩
 ·have I:=G.trans n';have J:H' x=some (.ins D dx []):=I _ _ hx λ_ z=>by cases z
  refine !⟨x,D,dx,!⟨J,t.cls,t.pl,by show 0 < 1000;decide,?_⟩⟩;rw [zeL];have e3:Ev th C H' (upd H' x (.ins D dx [("place",v')])):=z5W J λ_ _ _ _ _ z=>by cases z
  refine⟨(zq rfl),λal l=> ?_⟩;have p:al≠x:=λz=>by rw [z,zl]at l;cases l
  have Y:H' al=none:=by rw [zn p]at l;exact l
  refine !⟨x,D,dx,!⟨(by rw [zn p.symm,zl]),t.cls,t.ab,by show 1 < 1000;decide,?_⟩⟩;rw [zf9];refine fin v' al _ (λb o M e n=> ?_) ⟨zl,by rw [zn p,zl];rfl,rfl,?_⟩
  ·have O:b≠al:=λz=>by rw [z]at e;have:=I _ _ e n;rw [Y]at this;cases this
   rw [jt O,zn M,zn O,zn M];exact I _ _ e n
  ·rw [z2a p.symm,k5 l];exact(z.ev e3).ev (z5W zl λ_ _ _ _ _ z=>by cases z)
theorem z8L{n:Nat}(h:i < n):ixN n (i:Int)=some i:=by
 unfold ixN;rw [wY (by lia),wY (by lia)]
 rfl
inductive spGoW (C D:Addr) (vs:List V) (H:Hp) (Q:VK) (E:XK):Prop
 | mk:∀t dx al a bB ah hd wl us ws qv w b (i:Nat),vs= [.ref t,.int (i:Int)]->H t=some (.ins D dx (trF (.ref a) al))->H al=some (.lst us)->us.length < sizeLine->H a=some (.ins C bB (jF ah hd wl qv b))->H wl=some (.lst ws)->wl≠al->ws[i]? =some w->(∀p,H p=none->Q .non (upd (upd (upd H p (.tup [.ref a,.int (i:Int)])) al (.lst (us ++ [.ref p]))) t (.ins D dx (trF w al))))->spGoW C D vs H Q E
theorem z2f:FnScope ["self","spot"] ["self","spot"] (zm yQ):=by walk_at "s"
theorem z2e(F:Fun K "go_within" "Turner.go_within" yQ f fd)(T:Txt K mg)(n:PC K C)(c:TC K D):FnOk P w K mg base CX0 1 f fd ["self","spot"] (spGoW C D):=by
 refine F.okB z2f (λvs H Q E h=> ?_) (λvs H Q E h=> ?_)
 ·obtain⟨t,dx,al,a,bB,ah,hd,wl,us,ws,qv,w',b,i,rfl,_⟩:=h
  rfl
 obtain⟨t,dx,al,a,bB,ah,hd,wl,us,ws,qv,w',b,i,rfl,ht,d,q,ha,l,u,hi,fin⟩:=h;intro ad A outer x hr;refine⟨_,(zc (jh (apP (zE v0 rfl) (zH (zB (zO (zE v0 rfl) (zf v1 zb))) zb)))
  (zg (z0y v0 (ixL (zE (zE v0 rfl) rfl) v1) rfl))),?_⟩
 generalize hK0:K=K1;generalize hK1:C=C1;generalize hK2:D=D1
 revert D1
 revert C1
 revert K1
 refine z62 (by walk_at "cl") ?_;refine !(z8I c ht ⟨.inl ⟨rfl,_,SqL.of d⟩,?_⟩);refine !(z5m c ht (!⟨(zq rfl),λp hp=> ?_⟩));have ne:∀{b:Addr} {o:HO},H b=some o->b≠p:=λ{b o} e z=>by rw [z,hp]at e;cases e
 have r:t≠al:=λz=>by rw [z,d]at ht;cases ht
 have s:a≠al:=λz=>by rw [z,d]at ha;cases ha
 refine⟨al,ex2 rfl rfl ⟨(by rw [zn (ne d)];exact d),q,?_⟩⟩;have j:upd (upd H p (.tup [.ref a,.int (i:Int)])) al (.lst (us ++ [.ref p])) t=some (.ins D dx (trF (.ref a) al)):=by rw [zn r,zn (ne ht)];exact ht
 refine !(z5m c j (yW n (by rw [zn s,zn (ne ha)];exact ha) (!(zx (by rw [zn u,zn (ne l)];exact l) (zN hi) ?_))));refine !⟨t,D,dx,!⟨j,c.cls,c.pl,by show 2 < 1000;decide,?_⟩⟩;rw [zaV];exact fin p hp
theorem zaR{p k:Qn}(h:kO H p xs):kO H (zI p i k) xs:=by
 cases p with
 | pair q r=>show kO H (if i=0 then _ else _) xs;split <;> exact h
 | join a b q r=>show kO H (if i=0 then _ else _) xs;split <;> exact h
 | both q r=>show kO H (if i=0 then _ else _) xs;split <;> exact h
 | _=>exact h
theorem z7h{hd:Addr}(ha:H ah=some (.tup xs))(c:kO H q xs)(j:H hd=some (.lst ((za th q).map V.str)))(b:H wl=some (.lst ws))(hp:jS th C H (kids q) ws)
  (fin:∀(x dx:Addr) (qv:V) (H':Hp),zz H H'->H x=none->NodeAt th C H' q x ws ah hd wl dx qv false xs->R x .non H'):
  ∀x dx,H x=none->H dx=none->dx≠x->spPInit K C (.ref x :: ([.ref ah,.ref hd,.ref wl] ++ [])) (upd (upd H dx (.own x)) x (.ins C dx [])) (R x) E:=by
 intro x dx B o h;obtain⟨p,q',n,aj,D,l,bL,A,f,e,h1,h2,s,i,u,w⟩:=jI (K:=K) (E:=E) (Q:=λv H'=>∀z,v= .ref z->R z .non H') ha c j b hp (λz aj aQ H' s' hz nd _ y r=>by cases r;exact fin z aj aQ H' s' hz nd) x dx B o h;exact⟨p,q',n,aj,D,l,bL,A,f,e,h1,h2,s,i,u,λqv H' a t d=>(w qv H' a t d).2 x rfl⟩
def NodeAt.keep{a hd:Addr}(h:NodeAt th C H q a ws ah hd wl dx qv b xs)(k:∀c,c=a\/c=hd\/c=wl->H' c=H c)(t:∀b xs,H b=some (.tup xs)->H' b=some (.tup xs)):NodeAt th C H' q a ws ah hd wl dx qv b xs:=
 ⟨(k _ (.inl rfl)).trans h.me,t _ _ h.ahd,h.ahx.mono t,(k _ (.inr (.inl rfl))).trans h.hds,(k _ (.inr (.inr rfl))).trans h.wit,h.qst.mono t,h.set⟩
inductive spGoB (C D:Addr) (vs:List V) (H:Hp) (Q:VK) (E:XK):Prop
 | mk:∀th q t dx al p a bB ah hd wl us (ws:List V) xs qv v b (i:Nat),vs= [.ref t]->H t=some (.ins D dx (trF v al))->H al=some (.lst (us ++ [.ref p]))->H p=some (.tup [.ref a,.int (i:Int)])->H a=some (.ins C bB (jF ah hd wl qv b))->i < ws.length->wl≠al->hd≠al->H wl=some (.lst ws)->H ah=some (.tup xs)->kO H q xs->H hd=some (.lst ((za th q).map V.str))->jS th C (hid H al) (kids q) (ws.set i v)->(∀(x:Addr) (H':Hp),(∀b o,b≠t->b≠al->H b=some o->H' b=some o)->H x=none->H' t=some (.ins D dx (trF (.ref x) al))->H' al=some (.lst us)->(∃bL aj aQ,NodeAt th C (hid H' al) q x (ws.set i v) ah hd bL aj aQ false xs)->Q .non H')->spGoB C D vs H Q E
theorem kh:FnScope ["self","over","within"] ["self"] (zm kJ):=by walk_at "s"
theorem z2S(F:Fun K "go_back" "Turner.go_back" kJ f fd)(T:Txt K mg)(O:PC K C)(G:TC K D)(r:KnC P w K mg base 1 "Place" ["self","ahead","heads","within"] (spPInit K C) C):FnOk P w K mg base CX0 3 f fd ["self"] (spGoB C D):=by
 refine F.okB kh (λvs H Q E h=> ?_) (λvs H Q E h=> ?_)
 ·obtain⟨th,q,t,dx,al,p,a,bB,ah,hd,wl,us,ws,xs,qv,v,b,i,rfl,_⟩:=h
  rfl
 obtain⟨th,q,t,dx,al,p,a,bB,ah,hd,wl,us,ws,xs,qv,v,b,i,rfl,ht,s,hp,ha,hi,ra,U,aR,S,c8,N,lJ,fin⟩:=h;have u:t≠al:=λz=>by rw [z,s]at ht;cases ht
 have I:p≠al:=λz=>by rw [z,s]at hp;cases hp
 have M:a≠al:=λz=>by rw [z,s]at ha;cases ha
 have E7:ah≠al:=λz=>by rw [z,s]at S;cases S
 intro ad A outer sh hr;refine⟨_,(zc (seT 1 kh (z3d qB QZ w00 z3p (zE v0 rfl)))
  (zc (seT 2 kh (jg yo rfl T.list qR (zO (zE (ixT v1 zd) rfl) zb)))
  (zc (z7X (zE v0 rfl) (z7T v2 (ixT v1 zd) set_list))
  (zg (z0y v0 (yt r hr.m rfl (zO (zE (ixT v1 zd) rfl) (zO (zE (ixT v1 zd) rfl) (zf v2 zb)))) rfl))))),?_⟩
 generalize hK0:K=K1;generalize hK1:C=C1;generalize hK2:D=D1
 revert D1
 revert C1
 revert K1
 refine z62 (by walk_at "cl") ?_;refine !(z8I G ht ⟨.inl ⟨rfl,_,SqL.of s⟩,al,_,.ref p,rfl,rfl,s,z2c _ _,?_⟩);rw [w08];have d:∀{b:Addr} {o:HO},b≠al->H b=some o->upd H al (.lst us) b=some o:=λ{b o} n e=>by rw [zn n];exact e
 have R:upd H al (.lst us) al=some (.lst us):=zl;have lN:hid (upd H al (.lst us)) al=hid H al:=z1I;generalize upd H al (.lst us)=H1 at d R lN ⊢;refine !(zh (d I hp) zF (yW O (d M ha) ⟨wl,!⟨.inl (SqL.of (d ra aR)),λl cq=> ?_⟩⟩));refine ze (upd _ l _) rfl cq λH2 L x2=> ?_
 refine !(z5m G (L _ _ (d u ht)) (!(!(zh (L _ _ (d I hp)) j6 ⟨l,_,_,i,rfl,rfl,x2,?_,?_⟩))))
 ·exact z8L hi
 have y:H1 l=none:=cq;have n3:∀b o,H1 b=some o->upd H2 l (.lst (ws.set i v)) b=some o:=λb o e=>by rw [zn λz=>by rw [z,y]at e;cases e];exact L _ _ e
 have Z:upd H2 l (.lst (ws.set i v)) l=some (.lst (ws.set i v)):=zl;generalize upd H2 l (.lst (ws.set i v))=H3 at n3 Z ⊢;have j:zz H1 H3:=n3;have Ab:zz (hid H al) (hid H3 al):=by rw [<-lN];exact z0w j
 refine !(zh (j _ _ (d I hp)) zF (yJ O (j _ _ (d M ha)) ?_));refine !(zh (j _ _ (d I hp)) zF (z0Q O (j _ _ (d M ha)) (!?_)));have X:∀b xs,H b=some (.tup xs)->H3 b=some (.tup xs):=λb xs e=>j _ _ (d (λz=>by rw [z,s]at e;cases e) e)
 have fx:∀{b:Addr},H3 b=none->H b=none\/b=al:=λ{b} e=>by
  by_cases z:b=al
  ·exact .inr z
  ·refine .inl ?_;cases e2:H b with
   | none=>rfl
   | some o=>have:=j _ _ (d z e2);rw [e]at this;cases this
 refine z7h (th:=th) (q:=q) (xs:=xs) (X _ _ S) (c8.mono X) (j _ _ (d U N)) Z ((lJ.ev (Ev.of (Nt.of Ab))).ev (Ev.of (Nt.of ye))) λx aj aQ H4 J B nd=>⟨rfl,?_⟩
 have mY:=j _ _ R;have ui:x≠al:=λz=>by rw [z,mY]at B;cases B
 have uj:=j _ _ (d u ht);have Ac:x≠t:=λz=>by rw [z,uj]at B;cases B
 have Y:=J _ _ mY;have uk:=J _ _ uj;have Ad:l≠al:=λz=>by rw [z,R]at y;cases y
 have Ae:l≠t:=λz=>by rw [z,d u ht]at y;cases y
 have Af:hd≠t:=λz=>by rw [z,ht]at N;cases N
 refine !⟨t,D,dx,!⟨uk,G.cls,G.pl,by show 2 < 1000;decide,?_⟩⟩;rw [zaV];refine fin x _ (λb o h1 h2 e=> ?_) ?_ zl (by rw [zn u.symm];exact Y) ⟨l,aj,aQ,?_⟩
 ·rw [zn h1];exact J _ _ (j _ _ (d h2 e))
 ·rcases fx B with z | z
  ·exact z
  ·exact absurd z ui
 ·rw [z2a u];refine nd.keep (λc hc=> ?_) λb ys e=> ?_
  ·rcases hc with rfl | rfl | rfl
   ·rw [zn Ac,jt ui]
   ·rw [zn Af,jt U]
   ·rw [zn Ae,jt Ad]
  ·rw [zn (λz=>by rw [z,uk]at e;cases e),jt (λz=>by rw [z,Y]at e;cases e)];exact e
structure Step(th:Str->List Str)(C:Addr)(H H':Hp)(al:Addr):Prop where
 ev:Ev th C (hid H al) (hid H' al)
 tb:∀b ps,H b=some (.tbl ps)->H' b=some (.tbl ps)
def Step.refl:Step th C H H al:=⟨Ev.refl _,λ_ _ e=>e⟩
theorem Step.trans(a:Step th C H H1 al)(b:Step th C H1 H2 al):Step th C H H2 al:=⟨a.ev.trans b.ev,λx ps e=>b.tb x ps (a.tb x ps e)⟩
theorem Step.same(a:zz H H1):Step th C H H1 al:=⟨Ev.of (Nt.of (z0w a)),λ_ _ e=>a _ _ e⟩
theorem TrAt.same{c:List (Qn×Nat)}{v:V}(h:TrAt th C D H t al c q v dx vs)(s:zz H H1):TrAt th C D H1 t al c q v dx vs:=
 ⟨s _ _ h.me,s _ _ h.ab,h.up.ev (Ev.of (Nt.of (z0w s))),h.pl.ev (Ev.of (Nt.of (z0w s)))⟩
theorem TrAt.ne{c:List (Qn×Nat)}{v:V}(h:TrAt th C D H t al c q v dx vs):t≠al:=λz=>by
 have:=h.me;rw [z,h.ab]at this;cases this
theorem take_set{ws:List α}{v u:α}(m:u∈(ws.set i v).take (i + 1)):u=v\/u∈ws.take i:=by
 rw [q5]at m;rcases wA.mp m with m | m
 ·rw [List.take_set_of_le (wu i)]at m;exact .inr m
 ·by_cases h:i < ws.length
  ·rw [w0R h]at m;exact .inl (by simpa using m)
  ·rw [List.getElem?_eq_none (by rw [List.length_set];lia)]at m;cases m
theorem z4y{b:Addr}(h:hid H al b=some o):b≠al:=λz=>by rw [z,yE]at h;cases h
theorem zck{v:V}(h:H t=some (.ins D dx (trF v al)))(k:∀b o,b≠t->b≠al->H b=some o->H' b=some o)(ha:H al=some (.lst us)):Step th C H H' al:=by
 have kk:∀b o,b≠t->hid H al b=some o->hid H' al b=some o:=λb o n e=>by
  have nb:=z4y e;rw [jt nb];exact k b o n nb (ye _ _ e)
 refine⟨⟨λb o e _ m=>kk b o (λz=> ?_) e,λa aj ah hd wl qv b e=>⟨b,kk a _ (λz=> ?_) e,.inl rfl⟩⟩,λb ps e=>k b _ (λz=> ?_) (λz=> ?_) e⟩
 ·have:=ye _ _ e;rw [z,h]at this;cases this;exact m _ _ _ rfl
 ·have:=ye _ _ e;rw [z,h]at this
  injection this with this
  injection this with _ _ this
  exact z4p _ _ _ _ _ this
 ·rw [z,h]at e;cases e
 ·rw [z,ha]at e;cases e
theorem z8s{th:Str->List Str}{C:Addr}{H:Hp}:∀{qs:List Qn} {ws:List V},jS th C H qs ws->(∀u∈ws,z3Q C H u)->∀k∈qs,nf th k
 | [],_,_,_,_,m=>by cases m
 | q :: qs,_,⟨v,ws,e,h1,h2⟩,hs,k,m=>by
  subst e;rcases wH.mp m with rfl | m
  ·exact(hs v (qF ..)).nf h1
  ·exact z8s h2 (λu m=>hs u (wV _ m)) k m
def UnV(C:Addr)(H:Hp)(u:V):Prop:=∃a dx ah hd wl qv,u= .ref a/\H a=some (.ins C dx (jF ah hd wl qv false))
theorem UnV.not(h:UnV C H u):¬z3Q C H u:=by
 rintro⟨a,dx,ah,hd,wl,qv,rfl,e⟩;obtain⟨a',aj,d,c,bL,aQ,z,b⟩:=h;cases z;rw [e]at b;unfold jF at b;simp at b
inductive spTurn (C D:Addr) (vs:List V) (H:Hp) (Q:VK) (E:XK):Prop
 | mk:∀th tr t al dx c q v us,vs= [.ref t]->TabOk th tr->TrAt th C D H t al c q v dx us->kF th c q->wfQ th (plug c q)->wt (plug c q)<=8000000->(∀(r:Bool) (H':Hp) (c':List (Qn×Nat)) (q':Qn) (v':V) (Ag:List V),Step th C H H' al->TrAt th C D H' t al c' q' v' dx Ag->kF th c' q'->((r=true/\One th (plug c q) (plug c' q'))\/(r=false/\plug c' q'=plug c q/\nf th (plug c' q')))->Q (.bl r) H')->spTurn C D vs H Q E
structure TrIn(th:Str->List Str)(C D:Addr)(H H1:Hp)(w:Qn)(t al dx:Addr)(c:List (Qn×Nat))(q:Qn)(us ws xs:List V)(a ah hd wl bB:Addr)(qv:V)(b:Bool)(j:Nat):Prop where
 tr:TrAt th C D H1 t al c q (.ref a) dx us
 ok:kF th c q
 same:plug c q=w
 step:Step th C H H1 al
 nd:NodeAt th C (hid H1 al) q a ws ah hd wl bB qv b xs
 kd:jS th C (hid H1 al) (kids q) ws
 st:∀u∈ws.take j,z3Q C (hid H1 al) u
inductive TurnI (th:Str->List Str) (C D:Addr) (H:Hp) (w:Qn) (t al dx:Addr) (m:Nat) (σ:St) (H1:Hp):Prop
 | mk:∀c1 q1 cY ws xs a ah hd wl bB qv b j o1 o2 o3,σ= [some (.ref t),o1,o2,o3]->TrIn th C D H H1 w t al dx c1 q1 cY ws xs a ah hd wl bB qv b j->m=(if b=true then 1 else 2 + rest q1 j) + budget c1->TurnI th C D H w t al dx m σ H1
theorem kA:FnScope ["self","place","unsettled","other"] ["self"] (zm yL):=by walk_at "s"
theorem z4v(F:Fun K "turn" "Turner.turn" yL f fd)(T:Txt K mg)(M:TxtM K mg)(PK:PC K C)(TK:TC K D)(s:KnM P w K mg base 3 "go_back" ["self"] (spGoB C D) D)(n:KnM P w K mg base 1 "go_within" ["self","spot"] (spGoW C D) D)(N:Kn P w K mg base 9 "turned" ["place"] (spTurned C)):FnOk P w K mg base CX0 10 f fd ["self"] (spTurn C D):=by
 refine F.okB kA (λvs H Q E h=> ?_) (λvs H Q E h=> ?_)
 ·obtain⟨th,tr,t,al,dx,c,q,v,us,rfl,_⟩:=h
  rfl
 obtain⟨th,tr,t,al,dx,c,q,v,us,rfl,TT,eD,lD,Ah,Ai,fin⟩:=h;intro ad A outer sh hr;refine⟨_,(zc (z7d (z1K (z2X (zE v0 rfl) (λ_=>rfl)) (jT (zY (zE (zE v0 rfl) rfl))))
   (zc (seT 1 kA (zE v0 rfl))
   (zc (z6E (j:=2) rfl kA.nd rfl (w02 rfl) (CompScG.of (sx:=zm yL) (NX:= ["self","place","unsettled","other"]) (xs:= ["spot","inner"]) (fr:= []) (ix:= []) rfl rfl (by decide +kernel)) (zci rfl M.enumerate (zO (zE v1 rfl) zb)) (ze9 rfl (CompScG.of (sx:=zm yL) (NX:= ["self","place","unsettled","other"]) (xs:= ["spot","inner"]) (fr:= []) (ix:= []) rfl rfl (by decide +kernel)) (by rfl) (by rfl)) (λ_ _ _ _ _ _=>(z0s (jT (zY (z3U (K:=K) rfl v1 rfl))))) (λ_ _ _ _ _ _=>v0))
   (zg (zC (zY (zE v1 rfl))
    (zg (jh (z9k s hr.m v0)))
    (zg (zC (z2X v2 (λ_=>rfl))
     (zg (jh (zaH n hr.m v0 (zj (ixL v2 zd) zb))))
     (zc (seT 3 kA (zad N hr.m rfl (zf v1 zb)))
     (zc (zC (cmT z8j v3 z2v)
      (zc (z0y v0 v3 rfl)
      (zg (zt jD)))
      zu)
     (zg (z0y v1 jD rfl)))))))))))
  (zg (zt jD))),?_⟩
 generalize hK0:K=K1;generalize hK1:C=C1;generalize hK2:D=D1
 revert D1
 revert C1
 revert K1
 refine z62 (by walk_at "cl") ?_;obtain⟨ul,⟨a0,um,uo,uq,ur,rf,b0,ut,rfl,na⟩,uu⟩:=zU.mp eD.pl;refine z0N (TurnI th C D H (plug c q) t al dx)
  _ ⟨c,q,us,ul,ut,a0,um,uo,uq,ur,rf,b0,0,none,none,none,rfl,⟨eD,lD,rfl,.refl,na,uu,λu m=>by rw [w0A]at m;cases m⟩,rfl⟩ ?_
 rintro m σ H1 ⟨c1,q1,cY,ws,xs,a,ah,hd,wl,bB,qv,b,j,o1,o2,o3,rfl,R,rfl⟩;have me:=ye _ _ R.nd.me;refine !(z8I TK R.tr.me ⟨_,.inl ⟨_,SqL.of R.tr.ab,rfl⟩,?_⟩);refine⟨not b,(!(z5m TK R.tr.me (zba PK me (!⟨rfl,rfl⟩)))),?_⟩;by_cases hx:cY= []/\b=true
 ·obtain⟨rfl,rfl⟩:=hx;refine ifF (by rfl) ?_;have ec:c1= []:=QJ.mp (by rw [<-R.tr.up.len];rfl);subst ec;exact fin false H1 [] q1 _ _ R.step R.tr R.ok (.inr ⟨rfl,R.same,R.nd.set rfl⟩)
 refine ifT ?_ ?_
 ·cases b with
  | false=>simp
  | true=>
   cases cY with
   | nil=>exact absurd ⟨rfl,rfl⟩ hx
   | cons x r=>simp
 refine zcF λZ hN hR=> ?_
 refine !(z5m TK R.tr.me ?_);have wit:=ye _ _ R.nd.wit;have uv:=R.kd.len;have lk:=z2T q1;refine !(yW PK me ⟨wl,rfl,⟨_,SqL.of wit⟩,?_⟩);refine z9i (ys:=ws) (λi zs H'=>zz H1 H'/\zs.length<=i/\((zs= []/\∀u∈ws.take i,z3Q C (hid H1 al) u)\/∃(k:Nat) (w:V) (r:List V),zs= .int (k:Int) :: r/\ws[k]? =some w/\UnV C (hid H1 al) w/\∀u∈ws.take k,z3Q C (hid H1 al) u))
  ⟨zz.refl _,wu _,.inl ⟨rfl,λu m=>by rw [w0A]at m;cases m⟩⟩ ?_ ?_ ?_
 ·rintro i zs H' hi ⟨s',hz,_⟩;exact⟨SqL.of (s' _ _ wit),zK (by lia)⟩
 ·rintro i y zs H' p hi ⟨s',hz,o⟩ hp;have s2:=s'.trans (zJ hp (.tup [.int (i:Int),y]));have cy:i < (kids q1).length:=by rw [<-uv];exact(wk.mp hi).1
  obtain⟨v,hv,pv⟩:=R.kd.at (we cy);rw [hi]at hv;cases hv;obtain⟨eY,⟨a2,U,X,cV,c9,bZ,b2,cK,rfl,G⟩,_⟩:=zU.mp pv;refine !(zba PK (s2 _ _ (ye _ _ G.me)) (!?_));cases b2 with
  | false=>
   refine ifT rfl (!⟨s2,by rw [wg];simp;lia,?_⟩);rcases o with⟨rfl,all⟩ | ⟨k,w,r,rfl,h1,h2,h3⟩
   ·exact .inr ⟨i,_,[],rfl,hi,⟨a2,c9,U,X,cV,bZ,rfl,G.me⟩,all⟩
   ·exact .inr ⟨k,w,r ++ [.int (i:Int)],rfl,h1,h2,h3⟩
  | true=>
   refine ifF rfl ⟨s2,by lia,?_⟩;rcases o with⟨rfl,all⟩ | ⟨k,w,r,rfl,h1,h2,h3⟩
   ·refine .inl ⟨rfl,λu m=> ?_⟩;rw [q5,hi]at m;rcases wA.mp m with m | m
    ·exact all u m
    ·rw [show u= .ref a2 by simpa using m];exact⟨a2,c9,U,X,cV,bZ,rfl,G.me⟩
   ·exact .inr ⟨k,w,r,rfl,h1,h2,h3⟩
 ·rintro zs H' ⟨s',hz,o⟩ np aA;refine ze (upd _ np _) rfl aA λL n3 x3=> ?_
  have s3:=s'.trans n3;have l:=R.tr.same s3;have ng:=s3 _ _ me;have S:Step th C H1 L al:=Step.same s3;refine !(zba PK ng (!?_));cases b with
  | true=>
   refine ifT rfl ?_;obtain⟨p,i,c2,rfl⟩:∃p i c2,c1=(p,i) :: c2:=by
    cases c1 with
    | nil=>exact absurd ⟨QJ.mp R.tr.up.len,rfl⟩ hx
    | cons x c2=>exact⟨x.1,x.2,c2,rfl⟩
   obtain⟨pa,pv,eY,rfl,eu,⟨rg,⟨a2,U,X,cV,c9,bZ,b2,cK,rfl,G⟩,lP,bC⟩,Aj⟩:=l.up;have gz:=l.ab;rw [QT]at gz;have lp:=lP.len;refine !⟨t,dx,!⟨l.me,rfl,th,zI p i q1,t,dx,al,pa,a2,c9,U,X,cV,eY.reverse,rg,cK,bZ,.ref a,b2,i,rfl,l.me,gz,ye _ _ eu,ye _ _ G.me,(by rw [lp];exact R.ok.1),z4y G.wit,z4y G.hds,ye _ _ G.wit,ye _ _ G.ahd,zaR (G.ahx.mono λb xs z=>ye _ _ z),(by rw [R.ok.2.1];exact ye _ _ G.hds),(by rw [z1T R.ok.1];exact lP.set l.pl),?_⟩⟩;rintro x H4 k4 fx t4 mZ ⟨bL,aj,aQ,mP⟩;have fB:Step th C L H4 al:=zck l.me k4 gz;have uw:jS th C (hid H4 al) (kids (zI p i q1)) (rg.set i (.ref a)):=by
    rw [z1T R.ok.1];exact(lP.set l.pl).ev fB.ev
   refine hN _ _ ⟨(2 + rest (zI p i q1) (i + 1)) + budget c2,?_,c2,zI p i q1,eY,rg.set i (.ref a),cK,x,U,X,bL,aj,aQ,false,i + 1,_,_,_,rfl,⟨⟨t4,mZ,Aj.ev fB.ev,zU.mpr ⟨_,⟨x,U,X,bL,aj,aQ,false,cK,rfl,mP⟩,uw⟩⟩,R.ok.2.2,R.same,R.step.trans (S.trans fB),mP,uw,λu m=> ?_⟩,by simp⟩
   ·rw [zbu R.ok.1]
    show _ < 1 + (2 + rest p (i + 1) + budget c2)
    lia
   ·rcases take_set m with rfl | m
    ·exact z3Q.ev (th:=th) (S.trans fB).ev ⟨a,bB,ah,hd,wl,qv,rfl,R.nd.me⟩
    ·exact(bC u m).ev fB.ev
  | false=>
   refine ifF rfl ?_;refine !⟨_,.inl ⟨_,SqL.of x3,rfl⟩,?_⟩;rcases o with⟨rfl,all⟩ | ⟨k,w,r,rfl,hk,un,st⟩
   ·refine ifF (by rfl) ?_;rw [qH]at all;have hn:=z8s R.kd all;have ux:wfQ th (plug c1 q1):=by rw [R.same];exact Ah
    have gz:=l.ab;refine !⟨al,_,gz,th,q1,_,rfl,z28 R.ok ux,l.pl,λq' e z J O ac h5=> ?_,λe J O h5=> ?_⟩
    ·have m5:J t=some (.ins D dx (trF (.ref a) al)):=O t _ (by rw [jt l.ne];exact l.me);refine !⟨rfl,!?_⟩;refine ifT (by rfl) ?_;refine !(!⟨t,D,dx,!⟨(by rw [zn l.ne];exact m5),TK.cls,TK.pl,by show 2 < 1000;decide,?_⟩⟩);rw [zaV];have B:hid (upd (upd J al (.lst cY.reverse)) t (.ins D dx (trF (.ref z) al))) al=upd J t (.ins D dx (trF (.ref z) al)):=by rw [z2a l.ne,k5 h5]
     have v5:Ev th C (hid L al) J:=Ev.of (Nt.of O);have I:Ev th C J (upd J t (.ins D dx (trF (.ref z) al))):=z5W m5 z4p;have E3:=z5b (z1W TT (z28 R.ok ux) e).h R.ok;rw [<-R.same]at fin;refine hR _ _ (fin true _ c1 q' (.ref z) cY (R.step.trans (S.trans ⟨by rw [B];exact v5.trans I,λb ps e=> ?_⟩)) ⟨zl,by rw [zn l.ne.symm,zl],by rw [B];exact(l.up.ev v5).ev I,by rw [B];exact ac.ev I⟩ E3 (.inl ⟨rfl,c1,q1,q',R.ok,rfl,rfl,e,hn⟩));have n1:b≠t:=λz=>by rw [z,l.me]at e;cases e
     have n2:b≠al:=λz=>by rw [z,gz]at e;cases e
     rw [zn n1,zn n2];exact O _ _ (by rw [jt n2];exact e)
    ·refine !⟨rfl,!?_⟩;refine ifF (by rfl) ?_;have rh:=R.nd.ev (S.ev.trans (Ev.of (Nt.of O))) (O _ _ (z0w s3 _ _ R.nd.me)) (.inl rfl);have fc:a≠al:=z4y R.nd.me;refine !⟨a,C,bB,!⟨(by rw [zn fc];exact rh.me),PK.cls,PK.se,by show 5 < 1000;decide,?_⟩⟩;rw [zfm];have B:hid (upd (upd J al (.lst cY.reverse)) a (.ins C bB (jF ah hd wl qv true))) al=upd J a (.ins C bB (jF ah hd wl qv true)):=by rw [z2a fc,k5 h5]
     have nq:=zel e hn;have v5:Ev th C (hid L al) J:=Ev.of (Nt.of O);have I:Ev th C J (upd J a (.ins C bB (jF ah hd wl qv true))):=z9D rh nq;have gq:t≠a:=λz=>by
      have:=l.me;rw [z,ng]at this
      injection this with this
      injection this with _ _ this
      exact z4p _ _ _ _ _ this.symm
     have m5:J t=some (.ins D dx (trF (.ref a) al)):=O t _ (by rw [jt l.ne];exact l.me);refine hN _ _ ⟨1 + budget c1,?_,c1,q1,cY,ws,xs,a,ah,hd,wl,bB,qv,true,j,_,_,_,rfl,⟨⟨by rw [zn gq,zn l.ne];exact m5,by rw [zn fc.symm,zl],by rw [B];exact(l.up.ev v5).ev I,by rw [B];exact(l.pl.ev v5).ev I⟩,R.ok,R.same,R.step.trans (S.trans ⟨by rw [B];exact v5.trans I,λb ps e=> ?_⟩),by rw [B];exact rh.ev I zl (.inr nq),by rw [B];exact R.kd.ev (S.ev.trans (v5.trans I)),λu m=>by rw [B];exact(R.st u m).ev (S.ev.trans (v5.trans I))⟩,by simp⟩
     ·show 1 + budget c1 < 2 + rest q1 j + budget c1
      lia
     ·have n1:b≠a:=λz=>by rw [z,ng]at e;cases e
      have n2:b≠al:=λz=>by rw [z,gz]at e;cases e
      rw [zn n1,zn n2];exact O _ _ (by rw [jt n2];exact e)
   ·refine ifT (by rfl) ?_;obtain⟨pC,_⟩:=wk.mp hk;have cy:k < (kids q1).length:=by rw [<-uv];exact pC
    obtain⟨w',dh,pw⟩:=R.kd.at (we cy);rw [hk]at dh;cases dh;obtain⟨Ak,⟨a2,U,X,cV,c9,bZ,b2,cK,rfl,G⟩,lP⟩:=zU.mp pw;have eb:b2=false:=by
     cases b2 with
     | false=>rfl
     | true=>exact absurd ⟨a2,c9,U,X,cV,bZ,rfl,G.me⟩ un.not
    subst eb;have Am:j<=k:=by
     rcases Nat.lt_or_ge k j with z | z
     ·exact absurd (R.st _ (qA (i:=k) (by rw [List.getElem?_take_of_lt z];exact hk))) un.not
     ·exact z
    have lc:cY.length < sizeLine:=by
     have h1:=z5c R.ok;have h2:=z3Y (plug c1 q1);have h3:=R.tr.up.len;have h4:wt (plug c1 q1)<=8000000:=by rw [R.same];exact Ai
     exact z2K (by lia)
    refine !⟨t,dx,!⟨l.me,rfl,!(zx x3 zF ⟨t,dx,al,a,bB,ah,hd,wl,cY.reverse,ws,qv,.ref a2,false,k,rfl,l.me,l.ab,(by rw [w0n];exact lc),ng,s3 _ _ wit,z4y R.nd.wit,hk,λp hp=> ?_⟩)⟩⟩;have np1:p≠al:=λz=>by rw [z,l.ab]at hp;cases hp
    have np2:p≠t:=λz=>by rw [z,l.me]at hp;cases hp
    have hh:hid L al p=none:=z1S hp;have B:hid (upd (upd (upd L p (.tup [.ref a,.int (k:Int)])) al (.lst (cY.reverse ++ [.ref p]))) t (.ins D dx (trF (.ref a2) al))) al=upd (upd (hid L al) p (.tup [.ref a,.int (k:Int)])) t (.ins D dx (trF (.ref a2) al)):=by rw [z2a l.ne,z1I,z2a np1]
    have v5:Ev th C (hid L al) (upd (hid L al) p (.tup [.ref a,.int (k:Int)])):=Ev.of (Nt.of (zJ hh _));have mt:upd (hid L al) p (.tup [.ref a,.int (k:Int)]) t=some (.ins D dx (trF (.ref a) al)):=by rw [zn np2.symm,jt l.ne];exact l.me
    have I:=v5.trans (z5W (th:=th) (C:=C) (gs:=trF (.ref a2) al) mt z4p);have v7:=S.ev.trans I;have keep:∀{a' aj cX bg bL:Addr} {aQ:V} {b':Bool},hid H1 al a'=some (.ins C aj (jF cX bg bL aQ b'))->upd (upd (hid L al) p (.tup [.ref a,.int (k:Int)])) t (.ins D dx (trF (.ref a2) al)) a'=some (.ins C aj (jF cX bg bL aQ b')):=λ{a' aj cX bg bL aQ b'} e=>by
     have Y:=z0w (d:=al) s3 _ _ e;rw [zn λz=>by rw [z,jt l.ne,l.me]at Y;injection Y with Y;injection Y with _ _ Y;exact z4p _ _ _ _ _ Y,zn λz=>by rw [z,hh]at Y;cases Y];exact Y
    have kq:(kids q1)[k]? =some (kids q1)[k]:=we cy;refine hN _ _ ⟨(2 + rest (kids q1)[k] 0) + budget ((q1,k) :: c1),?_,(q1,k) :: c1,(kids q1)[k],.ref p :: cY,Ak,cK,a2,U,X,cV,c9,bZ,false,0,_,_,_,rfl,⟨⟨zl,by rw [zn l.ne.symm,zl,QT],?_,by rw [B];exact pw.ev v7⟩,zaI kq R.ok,(z9n kq).trans R.same,R.step.trans (S.trans ⟨by rw [B];exact I,λb ps e=> ?_⟩),?_,by rw [B];exact lP.ev v7,λu m=>by rw [w0A]at m;cases m⟩,by simp⟩
    ·have r1:=z8m kq;have r2:=zcA (p:=q1) Am;have r3:=zay (kids q1)[k]
     show 2 + rest (kids q1)[k] 0 + (2 + rest q1 (k + 1) + budget c1) < 2 + rest q1 j + budget c1
     lia
    ·rw [B];refine⟨p,.ref a,cY,rfl,?_,⟨ws,⟨a,ah,hd,wl,bB,qv,false,xs,rfl,?_⟩,R.kd.ev v7,λu m=>(st u m).ev v7⟩,l.up.ev I⟩
     ·rw [zn np2,zl]
     ·exact R.nd.ev v7 (keep R.nd.me) (.inl rfl)
    ·have n1:b≠t:=λz=>by rw [z,l.me]at e;cases e
     have n2:b≠al:=λz=>by rw [z,l.ab]at e;cases e
     have n3:b≠p:=λz=>by rw [z,hp]at e;cases e
     rw [zn n1,zn n2,zn n3];exact e
    ·rw [B];exact G.ev v7 (keep G.me) (.inl rfl)
inductive spTWhole (C D:Addr) (vs:List V) (H:Hp) (Q:VK) (E:XK):Prop
 | mk:∀th t al dx c q v us,vs= [.ref t]->TrAt th C D H t al c q v dx us->kF th c q->(∀(v':V) (H':Hp),zz H H'->QAt H' (plug c q) v'->Q v' H')->spTWhole C D vs H Q E
theorem zbI{th:Str->List Str}:∀{c:List (Qn×Nat)} {q p:Qn} {j i:Nat},kF th c q->c[j]? =some (p,i)->i < (kids p).length
 | [],_,_,_,_,_,e=>by cases e
 | (p,i) :: c,_,_,0,_,h,e=>by cases e;exact h.1
 | (p,i) :: c,_,_,j + 1,_,h,e=>zbI (j:=j) h.2.2 (by simpa using e)
theorem yv.set:∀{qs:List Qn} {vs:List V} {i:Nat} {q:Qn} {v:V},yv H qs vs->QAt H q v->yv H (qs.set i q) (vs.set i v)
 | [],_,_,_,_,h,_=>by rw [show _= []from h];rfl
 | r :: qs,_,0,_,v,⟨u,us,a,h1,h2⟩,h=>by subst a;exact⟨v,us,rfl,h,h2⟩
 | r :: qs,_,i + 1,_,v,⟨u,us,a,h1,h2⟩,h=>by subst a;exact⟨u,us.set i v,rfl,h1,h2.set h⟩
theorem jV:FnScope ["self","question","over","spot","parts"] ["self"] (zm kg):=by walk_at "s"
theorem z3F(F:Fun K "whole" "Turner.whole" kg f fd)(T:Txt K mg)(n:PC K C)(S:TC K D):FnOk P w K mg base CX0 1 f fd ["self"] (spTWhole C D):=by
 refine F.okB jV (λvs H Q E h=> ?_) (λvs H Q E h=> ?_)
 ·obtain⟨th,t,al,dx,c,q,v,us,rfl,_⟩:=h
  rfl
 obtain⟨th,t,al,dx,c,q,v,us,rfl,d,lD,fin⟩:=h;obtain⟨ul,⟨a0,um,uo,uq,ur,rf,b0,ut,rfl,M⟩,uu⟩:=zU.mp d.pl;have An:=ye _ _ M.me;have lu:=d.up.len;intro ad A outer sh hr;refine⟨_,(zc (seT 1 jV (zE (zE v0 rfl) rfl))
  (zc (foR (zeb rfl T.reversed (zO (zE v0 rfl) zb)) (zas rfl (z2V (gnM 2 jV) (z2V (gnM 3 jV) z8e)))
   (zc (jG (j:=4) rfl jV.nd rfl (w02 rfl) (CompSc.of (sx:=zm kg) (NX:= ["self","question","over","spot","parts"]) (fr:= []) (ix:= []) rfl rfl (by decide +kernel)) (jb (zE v2 rfl)) (λ_ _ _ _ _ _=>jZ) (λ_ _ _ _ _ _=>(z3U (K:=K) rfl v0 rfl)))
   (zc (z7X v1 (z7T v4 v3 set_list))
   (zg (seT 1 jV (zr z3Z (zE v2 rfl) (jg z0T rfl T.tuple Qg (zf v4 zb))))))))
  (zg (zt v1)))),?_⟩
 generalize hK0:K=K1;generalize hK1:C=C1;generalize hK2:D=D1
 revert D1
 revert C1
 revert K1
 refine z62 (by walk_at "cl") ?_;refine !(z5m S d.me (zd2 n An ?_));refine !(z8I S d.me ⟨al,!⟨SqL.of d.ab,?_⟩⟩);refine zbU (xs:=us.reverse) (λi σ H'=>∃u o2 o3 r,σ= [some (.ref t),some u,o2,o3,r]/\zz H H'/\QAt H' (plug (c.take i) q) u) ⟨rf,none,none,none,rfl,zz.refl _,M.qst.same ye⟩ ?_ ?_ ?_
 ·rintro i σ H' _ ⟨u,o2,o3,r,rfl,s',_⟩;exact SqL.of (s' _ _ d.ab)
 ·rintro i x σ H' hi ⟨u,o2,o3,r,rfl,s',s⟩;rw [List.reverse_reverse]at hi;obtain⟨p,k,pa,pv,hc,rfl,eu,Ao⟩:=d.up.at hi;have hk:=zbI lD hc;obtain⟨ws,⟨a,ah,hd,wl,bB,qv,b,xs,rfl,nd⟩,kd⟩:=zU.mp Ao;have lo:zz (hid H al) H':=ye.trans s';have me:=lo _ _ nd.me;have wit:=lo _ _ nd.wit;have Y:=kd.len;have lk:=z2T p;have Ap:=kd.ev (Ev.of (Nt.of lo));refine⟨pa,!⟨SqT.of (lo _ _ eu),rfl,_,[_],rfl,_,[],rfl,rfl,?_⟩⟩;refine !(yW n me ⟨wl,rfl,⟨_,SqL.of wit⟩,?_⟩);refine jH (xs:=ws) (λi ys H2=>H2=H'/\ys.length=i/\yv H' ((kids p).take i) ys) ⟨rfl,rfl,by rw [w0A];rfl⟩ ?_ ?_ ?_
  ·rintro i ys H2 hi ⟨rfl,I,_⟩;exact⟨SqL.of wit,zK (by lia)⟩
  ·rintro i y ys H2 hi ⟨rfl,I,hq⟩;have X:i < (kids p).length:=by rw [<-Y];exact(wk.mp hi).1
   obtain⟨v,O,pv⟩:=Ap.at (we X);rw [hi]at O;cases O;obtain⟨us,⟨a2,cz,bE,cV,c9,bZ,b2,cK,rfl,R⟩,_⟩:=zU.mp pv;refine !(zd2 n R.me ⟨rfl,by rw [wg,I];rfl,?_⟩);rw [q5,we X];exact hq.app ⟨_,[],rfl,R.qst,rfl⟩
  ·rintro ys H2 ⟨rfl,I,hq⟩ np L;rw [Y,qH]at hq;refine ze (upd _ np _) rfl L λG n3 x3=> ?_
   refine !(!(!⟨np,_,_,k,rfl,rfl,x3,z8L (by lia),?_⟩));have l:zz H2 (upd G np (.lst (ys.set k u))):=λb o e=>by rw [zn λz=>by rw [z,L]at e;cases e];exact n3 _ _ e
   have U:upd G np (.lst (ys.set k u)) np=some (.lst (ys.set k u)):=zl;generalize upd G np (.lst (ys.set k u))=H4 at l U ⊢;have Aq:=(hq.set (i:=k) s).same l;refine !(yJ n (l _ _ me) (!⟨np,!(.inl ⟨SqL.of U,λtp aF=> ?_⟩)⟩));refine ze (upd _ tp _) rfl aF λH5 N x5=> ?_
   have B:=l.trans N;have E8:ys.length=(kids p).length:=by lia
   have Z:kO H5 (zI p k (plug (c.take i) q)) xs:=zaR (nd.ahx.mono λb xs z=>B _ _ (lo _ _ z));refine⟨ah,tp,xs,!⟨rfl,SqT.of (B _ _ (lo _ _ nd.ahd)),SqT.of x5,(z4M nd.ahx).1,?_,λe=> ?_,λne p' aa=> ?_⟩⟩
   ·have:=(z4M nd.ahx).2;rw [List.length_set];exact je (by lia)
   ·have:=Qj List.length e;rw [List.length_set]at this;have:ys.length=0:=this
    lia
   ·refine ze (upd _ p' _) rfl aa λH6 J x6=> ?_
    have s6:=B.trans J;refine⟨.ref p',_,_,!⟨s'.trans s6,?_⟩⟩;have et:c.take (i + 1)=c.take i ++ [(p,k)]:=by rw [q5,hc];rfl
    rw [et,z5k];refine zdV (Z.mono λb xs z=>J _ _ z) ?_ x6;rw [z1T hk];exact Aq.same (N.trans J)
 ·rintro σ H' ⟨u,o2,o3,r,rfl,s',s⟩;rw [w0n,lu,qH]at s;exact !(fin u H' s' s)
inductive Tns (th:Str->List Str) (H:Hp):List V->Qn->Qn->Prop
 | one:∀q v,QAt H q v->Tns th H [v] q q
 | more:∀us p q r v,Tns th H us p q->One th q r->QAt H r v->Tns th H (us ++ [v]) p r
theorem Tns.mono(k:∀b xs,H b=some (.tup xs)->H' b=some (.tup xs)){p:Qn}(h:Tns th H us p q):Tns th H' us p q:=by
 induction h with
 | one q v h=>exact .one q v (h.mono k)
 | more us p q r v _ o h a=>exact .more us p q r v a o (h.mono k)
theorem Tns.last{p:Qn}(h:Tns th H us p q):∃vs v,us=vs ++ [v]/\QAt H q v:=by
 cases h with
 | one q v h=>exact⟨[],_,rfl,h⟩
 | more us p q r v t o h=>exact⟨_,_,rfl,h⟩
theorem Tns.eqv(T:TabOk th tr){p:Qn}(h:Tns th H us p q)(wf:wfQ th p):Eqv th tr p q/\us.length + nu th q<=nu th p + 1/\wt q<=wt p:=by
 induction h with
 | one q v h=>exact⟨Eqv.refl wf,by rw [wJ];lia,wu _⟩
 | more us p q r v t o h a=>
  obtain⟨e,l,w⟩:=a wf;have d:=o.dn T e.wf;exact⟨e.trans (o.eqv T e.wf),by rw [wg,wJ];have:=d.nu;lia,wW d.wt w⟩
inductive spTurnings (C T4:Addr) (vs:List V) (H:Hp) (Q:VK) (E:XK):Prop
 | mk:∀th tr q v tp,vs= [.ref tp,v]->TabOk th tr->jz th tr H tp->QAt H q v->wfQ th q->wt q<=4000->z1P H T4 zav zb7->(∀(l:Addr) (us:List V) (q':Qn) (H':Hp),Ev th C H H'->H' l=some (.lst us)->Tns th H' us q q'->nf th q'->Q (.ref l) H')->spTurnings C T4 vs H Q E
theorem z1Q:FnScope ["tables","question","turner","questions"] ["tables","question"] (zm z2t):=by walk_at "s"
theorem z6s(F:Fun K "turnings" "turnings" z2t f fd)(T:Txt K mg)(p:KnC P w K mg base 10 "Turner" ["self","tables","question"] (spTInit C D T4) D)(j:KnM P w K mg base 10 "turn" ["self"] (spTurn C D) D)(i:KnM P w K mg base 1 "whole" ["self"] (spTWhole C D) D):FnOk P w K mg base CX0 12 f fd ["tables","question"] (spTurnings C T4):=by
 refine F.okB z1Q (λvs H Q E h=> ?_) (λvs H Q E h=> ?_)
 ·obtain⟨th,tr,q,v,tp,rfl,_⟩:=h
  rfl
 obtain⟨th,tr,q,v,tp,rfl,TT,h4,hq,wf,Y,hT,fin⟩:=h;intro ad A outer sh hr;refine⟨_,(zc (seT 2 z1Q (yt p hr.m rfl (zf v0 (zf v1 zb))))
  (zc (seT 3 z1Q (zw (zf v1 zb)))
  (zc (z7d (zY (z6Z j hr.m v2))
   (zg (jh (apP v3 (zX (z6Z i hr.m v2) zb)))))
  (zg (zt v3))))),?_⟩
 generalize hK0:K=K1
 revert K1
 refine jq (by walk_at "cl") ?_;refine !(!(λx dx L gj ao=> ?_));have s1:zz H (upd (upd H dx (.own x)) x (.ins D dx [])):=λb o e=>by
  have b1:b≠x:=λz=>by rw [z,L]at e;cases e
  have b2:b≠dx:=λz=>by rw [z,gj]at e;cases e
  rw [zn b1,zn b2];exact e
 refine⟨th,tr,q,v,x,dx,tp,rfl,zl,TT,h4.same s1,hq.same s1,wf,wW (z3Y q) (by lia),hT.same s1,λv1 al H1 M t1=>⟨rfl,?_⟩⟩;have N:Ev th C H (hid H1 al):=⟨λb o e n _=>M b o (λz=>by rw [z,L]at e;cases e) (s1 _ _ e) n,λa aj ah hd wl qv b e=>⟨b,M a _ (λz=>by rw [z,L]at e;cases e) (s1 _ _ e) (λ_ z=>by cases z),.inl rfl⟩⟩;refine !⟨(zq rfl),λl hl=> ?_⟩;refine z2Q ?_;dsimp only;refine z45 ?_;have mN:QAt H1 q v:=hq.mono λb xs e=>ye _ _ (N.tup e)
 refine z0N (λm σ H2=>∃c s v2 ws us,σ= [some (.ref tp),some v,some (.ref x),some (.ref l)]/\H2 l=some (.lst us)/\TrAt th C D (hid H2 l) x al c s v2 dx ws/\kF th c s/\Tns th (hid H2 l) us q (plug c s)/\Ev th C H (hid (hid H2 l) al)/\m=nu th (plug c s))
  _ ⟨[],q,v1,[],[v],rfl,zl,by rw [k5 hl];exact t1,trivial,by rw [k5 hl];exact .one q v mN,by rw [k5 hl];exact N,rfl⟩ ?_
 rintro m σ H2 ⟨c,s,v2,ws,us,rfl,l2,J,As,U,e2,rfl⟩;obtain⟨R,n2,w2⟩:=U.eqv TT wf;refine !⟨x,dx,_,l,us,rfl,ye _ _ J.me,rfl,l2,th,tr,x,al,dx,c,s,v2,ws,rfl,TT,J,As,R.wf,by lia,λr G c' q' v' O st I u o B=>!?_⟩;have Z:=e2.trans st.ev;have S:hid (upd G l (.lst us)) l=G:=k5 B;have X:Tns th G us q (plug c s):=U.mono λb xs e=>ye _ _ (st.ev.tup (zcV J.ab b xs e))
 rcases o with⟨rfl,on⟩ | ⟨rfl,ep,Au⟩
 ·refine ifT rfl ?_;refine⟨_,λσ' H' z=>z,?_⟩;refine !⟨.inl ⟨rfl,_,SqL.of zl⟩,!⟨x,dx,_,l,us,rfl,zJ B _ _ _ I.me,rfl,zl,th,x,al,dx,c',q',v',O,rfl,by rw [S];exact I,u,λv4 H4 y iX t=> ?_⟩⟩;rw [S]at y;have d:=on.dn TT R.wf;refine⟨l,ex2 rfl rfl ⟨zl,by
   have z1:=zcZ (th:=th) q;have z2:wt q * wt q<=4000 * 4000:=w0y Y Y;have z3:sizeLine=16777216:=w04;have z4:=d.nu
   lia,?_⟩⟩
  refine⟨_,d.nu,c',q',v',O,us ++ [v4],rfl,zl,?_,u,?_,?_,rfl⟩
  ·rw [z1I,k5 t];exact I.same y
  ·rw [z1I,k5 t];exact .more us q _ _ v4 (X.mono λb xs e=>y _ _ e) on iX
  ·rw [z1I,k5 t];exact Z.trans (Ev.of (Nt.of (z0w y)))
 ·refine ifF rfl ?_;exact !(fin l us _ _ (Z.trans (Ev.of (Nt.of (ye.trans (zJ B _))))) zl (by rw [ep];exact X.mono λb xs e=>zJ B _ _ _ e) Au)
inductive spHdBy (K:W.Frag) (n:Nat) (vs:List V) (H:Hp) (Q:VK) (E:XK):Prop
 | mk:∀th tr q v tp,vs= [v,.ref tp]->TabOk th tr->jz th tr H tp->QAt H q v->wfQ th q->depth q<=n->(∀(hp:Addr) (H':Hp),zz H H'->H' hp=some (.lst ((za th q).map V.str))->Q (.ref hp) H')->spHdBy K n vs H Q E
theorem z0R:FnScope ["_law_asked","_law_tables","_law_word"] ["_law_asked","_law_tables"] (zm yj):=by walk_at "s"
theorem noS{a b:Str}(h:a≠b):decide (V.str a=V.str b)=false:=by rw [zV];exact wL h
def z38(a:Str):decide (V.str a=V.str a)=true:=wS rfl
theorem z2d(F:Fun K "_law_headed_by" "_law_headed_by" yj f fd)(T:Txt K mg)(n:Nat)(o:Kn P w K mg base n "_law_headed_by" ["_law_asked","_law_tables"] (spHdBy K n)):FnOk P w K mg base CX0 (n + 1) f fd ["_law_asked","_law_tables"] (spHdBy K (n + 1)):=by
 refine F.okB z0R (λvs H Q E h=> ?_) (λvs H Q E h=> ?_)
 ·obtain⟨th,tr,q,v,tp,rfl,_⟩:=h
  rfl
 obtain⟨th,tr,q,v,tp,rfl,TT,G,hq,wf,hd,fin⟩:=h;have wh:=jL TT wf;intro ad A outer sh hr;refine⟨_,(zc (seT 2 z0R (ixT v0 zd))
  (zc (zC (cmT zM v2 zi)
   (zg (zt (ixL (yI rfl (CompSc.of (sx:=zm yj) (NX:= ["_law_asked","_law_tables","_law_word"]) (fr:= ["_law_asked"]) (ix:= [0]) rfl rfl (by decide +kernel)) (jb v1) (λ_ _ _ _ _ _=>(z0s (cmT zM (yD (kc (K:=K) rfl) v0 zd (λ_ _=>rfl)) (yD (kc (K:=K) rfl) v1 zd (λ_ _=>rfl))))) (λ_ _ _ _ _ _=>(yD (kc (K:=K) rfl) v0 zd (λ_ _=>rfl)))) zd)))
   zu)
  (zc (zC (yb yk v2 (zw (zo zi (zo zi zb))) (by with_unfolding_all rfl))
   (zg (zt (zr kH (zW o hr.m (zj (ixT v0 (z0z yU zd)) (zf v1 zb))) (zW o hr.m (zj (ixT v0 (z0z yU zd)) (zf v1 zb))))))
   zu)
  (zc (zC (cmT zM v2 zi)
   (zg (zt (jg yo rfl T.list qR (zj (ixT v0 zd) zb))))
   zu)
  (zc (zC (cmT zM v2 zi)
   (zg (zt (zw (zj (ixT v0 zd) (zj (ixT v0 zd) (zj (ixT v0 zd) zb))))))
   zu)
  (zc (zC (cmT zM v2 zi)
   (zg (zt (zW o hr.m (zj (ixT v0 zd) (zf v1 zb)))))
   zu)
  (zg (zt (zW o hr.m (zj (ixT v0 (z0z yU zd)) (zf v1 zb))))))))))),?_⟩
 generalize hK0:K=K1
 revert K1
 refine jq (by walk_at "cl") ?_;cases q with
 | table m=>
  obtain⟨p,rfl,h1⟩:=hq;obtain⟨vs,cu,l4,dA⟩:=z2P G;obtain⟨j,O,L⟩:=z8z (show m∈tabs from wf);obtain⟨vj,uy,pj,X,E9,Ea,Av,Z,uB,Eb,Ec⟩:=dA j O;have uniq:∀i,i < 3->tabs.getD i ""=m->i=j:=λi hi e=>by
   rw [<-L]at e;have u:∀i,i < 3->∀j,j < 3->tabs.getD i ""=tabs.getD j ""->i=j:=by decide +kernel
   exact u i hi j O e
  rw [L]at Z uB;refine !(zh h1 zF ?_);refine !⟨rfl,!?_⟩;refine ifT (z38 _) ?_;refine !⟨tp,rfl,⟨_,SqL.of cu⟩,?_⟩;refine kI (xs:=vs) (λi ys H'=>H'=H/\ys=if j < i then [.ref X]else []) ⟨rfl,by rw [wU (w1v _)]⟩ ?_ ?_ ?_
  ·rintro i ys H' hi ⟨rfl,rfl⟩;exact⟨SqL.of cu,zK (by split <;> simp)⟩
  ·rintro i x ys H' hi ⟨rfl,rfl⟩;have dS:i < 3:=by rw [<-l4];exact(wk.mp hi).1
   obtain⟨v,Y,p',hp,rp,rs,rfl,t1,t2,t3,t4⟩:=dA i dS;rw [hi]at Y;cases Y;refine !(zh t1 zF (!(zh h1 j6 ⟨rfl,!?_⟩)));by_cases e:tabs.getD i ""=m
   ·refine ifT (by rw [zV];exact wS e) ?_;have Aw:=uniq i dS e;subst Aw;rw [hi]at uy;cases uy;cases Av;refine !(zh Z j6 ⟨rfl,?_⟩);rw [wU (QC _),wY (w05 _)]
    rfl
   ·refine ifF (by rw [zV];exact wL e) ?_;refine⟨rfl,?_⟩;have:i≠j:=λz=>e (by rw [z];exact L)
    by_cases h:j < i
    ·rw [wY h,wY (by lia)]
    ·rw [wU h,wU (by lia)]
  ·rintro ys H' ⟨rfl,rfl⟩ np aA;rw [l4,wY O];refine ze (upd _ np _) rfl aA λH1 r x1=> ?_
   exact zx x1 zF (fin X H1 r (r _ _ uB))
 | pair a b=>
  obtain⟨p,x,y,rfl,h1,h2,D⟩:=hq;refine !(zh h1 zF ?_);refine !⟨rfl,!?_⟩;refine ifF (noS (by decide +kernel)) ?_;refine !⟨(zq rfl),λlp B=> ?_⟩;refine ze (upd _ lp _) rfl B λH1 r x1=> ?_
  refine⟨lp,!⟨.inl (SqL.of x1),rfl,rfl,!?_⟩⟩;refine ifT (by decide +kernel) ?_;have I:depth a<=n/\depth b<=n:=by simp only [depth]at hd;lia
  refine !(!(zh (r _ _ h1) rfl (!⟨th,tr,a,x,tp,rfl,TT,G.same r,h2.same r,wf.2.2.1,I.1,λR H2 t C=> ?_⟩)));have s2:=r.trans t;refine !(!(zh (s2 _ _ h1) rfl (!⟨th,tr,b,y,tp,rfl,TT,G.same s2,D.same s2,wf.2.2.2,I.2,λp2 H3 J M=> ?_⟩)));refine⟨R,p2,ex2 rfl rfl ⟨J _ _ C,M,je (by have:=wh.2;rw [w9,w9];simp only [za,wg]at this;lia),λl hl=> ?_⟩⟩;refine ze (upd _ l _) rfl hl λS U N=> ?_
  exact fin l S (s2.trans (J.trans U)) (by rw [N];show _=some (HO.lst ((za th a ++ za th b).map V.str));rw [wK])
 | join c d a b=>
  obtain⟨p,x,y,rfl,h1,h2,D⟩:=hq;refine !(zh h1 zF ?_);refine !⟨rfl,!?_⟩;refine ifF (noS (by decide +kernel)) ?_;refine !⟨(zq rfl),λlp B=> ?_⟩;refine ze (upd _ lp _) rfl B λH1 r x1=> ?_
  refine⟨lp,!⟨.inl (SqL.of x1),rfl,rfl,!?_⟩⟩;refine ifT (by decide +kernel) ?_;have I:depth a<=n/\depth b<=n:=by simp only [depth]at hd;lia
  refine !(!(zh (r _ _ h1) rfl (!⟨th,tr,a,x,tp,rfl,TT,G.same r,h2.same r,wf.2.2.2.2.1,I.1,λR H2 t C=> ?_⟩)));have s2:=r.trans t;refine !(!(zh (s2 _ _ h1) rfl (!⟨th,tr,b,y,tp,rfl,TT,G.same s2,D.same s2,wf.2.2.2.2.2,I.2,λp2 H3 J M=> ?_⟩)));refine⟨R,p2,ex2 rfl rfl ⟨J _ _ C,M,je (by have:=wh.2;rw [w9,w9];simp only [za,wg]at this;lia),λl hl=> ?_⟩⟩;refine ze (upd _ l _) rfl hl λS U N=> ?_
  exact fin l S (s2.trans (J.trans U)) (by rw [N];show _=some (HO.lst ((za th a ++ za th b).map V.str));rw [wK])
 | cols ns q=>
  obtain⟨p,x,y,rfl,h1,h2,D⟩:=hq;refine !(zh h1 zF ?_);refine !⟨rfl,!?_⟩;refine ifF (noS (by decide +kernel)) ?_;refine !⟨(zq rfl),λlp B=> ?_⟩;refine ze (upd _ lp _) rfl B λH1 r x1=> ?_
  refine⟨lp,!⟨.inl (SqL.of x1),rfl,rfl,!?_⟩⟩;refine ifF (by decide +kernel) ?_;refine !⟨rfl,!?_⟩;refine ifT (z38 _) ?_;refine !(zh (r _ _ h1) j6 ⟨x,!⟨.inr (SqT.of (r _ _ h2)),λl hl=> ?_⟩⟩);refine ze (upd _ l _) rfl hl λH2 t C=> ?_
  exact fin l H2 (r.trans t) C
 | group a b m s q=>
  obtain⟨p,y,rfl,h1,D⟩:=hq;refine !(zh h1 zF ?_);refine !⟨rfl,!?_⟩;refine ifF (noS (by decide +kernel)) ?_;refine !⟨(zq rfl),λlp B=> ?_⟩;refine ze (upd _ lp _) rfl B λH1 r x1=> ?_
  refine⟨lp,!⟨.inl (SqL.of x1),rfl,rfl,!?_⟩⟩;refine ifF (by decide +kernel) ?_;refine !⟨rfl,!?_⟩;refine ifF (noS (by decide +kernel)) ?_;refine !⟨rfl,!?_⟩;refine ifT (z38 _) ?_;refine !(zh (r _ _ h1) j6 (!(zh (r _ _ h1) z1L (!(zh (r _ _ h1) zeG ⟨(zq rfl),λl hl=> ?_⟩)))));refine ze (upd _ l _) rfl hl λH2 t C=> ?_
  exact fin l H2 (r.trans t) C
 | both a b=>
  obtain⟨p,x,y,rfl,h1,h2,D⟩:=hq;refine !(zh h1 zF ?_);refine !⟨rfl,!?_⟩;refine ifF (noS (by decide +kernel)) ?_;refine !⟨(zq rfl),λlp B=> ?_⟩;refine ze (upd _ lp _) rfl B λH1 r x1=> ?_
  refine⟨lp,!⟨.inl (SqL.of x1),rfl,rfl,!?_⟩⟩;refine ifF (by decide +kernel) ?_;refine !⟨rfl,!?_⟩;refine ifF (noS (by decide +kernel)) ?_;refine !⟨rfl,!?_⟩;refine ifF (noS (by decide +kernel)) ?_;refine !⟨rfl,!?_⟩;refine ifT (z38 _) ?_;exact !(zh (r _ _ h1) j6 (!⟨th,tr,a,x,tp,rfl,TT,G.same r,h2.same r,wf.2.1,by simp only [depth]at hd;lia,λhp H2 t C=>fin hp H2 (r.trans t) C⟩))
 | pick c q=>
  obtain⟨p,x,y,rfl,h1,h2,D⟩:=hq;refine !(zh h1 zF ?_);refine !⟨rfl,!?_⟩;refine ifF (noS (by decide +kernel)) ?_;refine !⟨(zq rfl),λlp B=> ?_⟩;refine ze (upd _ lp _) rfl B λH1 r x1=> ?_
  refine⟨lp,!⟨.inl (SqL.of x1),rfl,rfl,!?_⟩⟩;refine ifF (by decide +kernel) ?_;refine !⟨rfl,!?_⟩;refine ifF (noS (by decide +kernel)) ?_;refine !⟨rfl,!?_⟩;refine ifF (noS (by decide +kernel)) ?_;refine !⟨rfl,!?_⟩;refine ifF (noS (by decide +kernel)) ?_;exact !(!(zh (r _ _ h1) rfl (!⟨th,tr,q,y,tp,rfl,TT,G.same r,D.same r,wf.2.2,by simp only [depth]at hd;lia,λhp H2 t C=>fin hp H2 (r.trans t) C⟩)))
 | first m q=>
  obtain⟨p,y,rfl,h1,D⟩:=hq;refine !(zh h1 zF ?_);refine !⟨rfl,!?_⟩;refine ifF (noS (by decide +kernel)) ?_;refine !⟨(zq rfl),λlp B=> ?_⟩;refine ze (upd _ lp _) rfl B λH1 r x1=> ?_
  refine⟨lp,!⟨.inl (SqL.of x1),rfl,rfl,!?_⟩⟩;refine ifF (by decide +kernel) ?_;refine !⟨rfl,!?_⟩;refine ifF (noS (by decide +kernel)) ?_;refine !⟨rfl,!?_⟩;refine ifF (noS (by decide +kernel)) ?_;refine !⟨rfl,!?_⟩;refine ifF (noS (by decide +kernel)) ?_;exact !(!(zh (r _ _ h1) rfl (!⟨th,tr,q,y,tp,rfl,TT,G.same r,D.same r,wf.2,by simp only [depth]at hd;lia,λhp H2 t C=>fin hp H2 (r.trans t) C⟩)))
 | sort a q=>
  obtain⟨p,y,rfl,h1,D⟩:=hq;refine !(zh h1 zF ?_);refine !⟨rfl,!?_⟩;refine ifF (noS (by decide +kernel)) ?_;refine !⟨(zq rfl),λlp B=> ?_⟩;refine ze (upd _ lp _) rfl B λH1 r x1=> ?_
  refine⟨lp,!⟨.inl (SqL.of x1),rfl,rfl,!?_⟩⟩;refine ifF (by decide +kernel) ?_;refine !⟨rfl,!?_⟩;refine ifF (noS (by decide +kernel)) ?_;refine !⟨rfl,!?_⟩;refine ifF (noS (by decide +kernel)) ?_;refine !⟨rfl,!?_⟩;refine ifF (noS (by decide +kernel)) ?_;exact !(!(zh (r _ _ h1) rfl (!⟨th,tr,q,y,tp,rfl,TT,G.same r,D.same r,wf.2,by simp only [depth]at hd;lia,λhp H2 t C=>fin hp H2 (r.trans t) C⟩)))
theorem z0M(F:Fun K "_law_headed_by" "_law_headed_by" yj f fd)(T:Txt K mg)(a:∀k sp,FnOk P w K mg base CX0 k f fd ["_law_asked","_law_tables"] sp->Kn P w K mg base k "_law_headed_by" ["_law_asked","_law_tables"] sp):∀n,FnOk P w K mg base CX0 n f fd ["_law_asked","_law_tables"] (spHdBy K n)
 | 0=>⟨λvs H Q E h=>by obtain⟨th,tr,q,v,tp,rfl,_⟩:=h;rfl,λA outer s H args us vs Q E hr d b c h=>by
  obtain⟨th,tr,q,v,tp,_,_,_,_,_,hz,_⟩:=h;cases q <;> simp only [depth]at hz <;> lia⟩
 | n + 1=>z2d F T n (a n _ (z0M F T a n))
theorem z7A{v:V}(h:zG H c v):(∃(p:Addr) (w:Str) (a b:Side),v= .ref p/\H p=some (.tup [.str w,a.v,b.v])/\inV (.str w) [.str "less",.str "same"]=true/\c.cols=a.cols ++ b.cols)\/
  ∃(p:Addr) (w:Str) (ks:List (V×Cond)),v= .ref p/\H p=some (.tup (.str w :: ks.map (·.1)))/\inV (.str w) [.str "less",.str "same"]=false/\(∀g∈ks,zG H g.2 g.1)/\(∀s,s∈c.cols↔∃g∈ks,s∈g.2.cols)/\yA ks + 1=c.size/\ks.length<=2/\∀a b,c≠ .same a b:=by
 cases c with
 | less a b=>obtain⟨p,rfl,h⟩:=h;exact .inl ⟨p,_,a,b,rfl,h,by decide +kernel,rfl⟩
 | same a b=>obtain⟨p,rfl,h⟩:=h;exact .inl ⟨p,_,a,b,rfl,h,by decide +kernel,rfl⟩
 | no c=>obtain⟨p,x,rfl,h,h1⟩:=h;exact .inr ⟨p,_,[(x,c)],rfl,h,by decide +kernel,by simpa using h1,by simp [Cond.cols],by simp [yA,Cond.size],by simp,λ_ _=>nofun⟩
 | an c d=>obtain⟨p,x,y,rfl,h,h1,h2⟩:=h;exact .inr ⟨p,_,[(x,c),(y,d)],rfl,h,by decide +kernel,by simpa using ⟨h1,h2⟩,by simp [Cond.cols],by simp [yA,Cond.size],by simp,λ_ _=>nofun⟩
 | or c d=>obtain⟨p,x,y,rfl,h,h1,h2⟩:=h;exact .inr ⟨p,_,[(x,c),(y,d)],rfl,h,by decide +kernel,by simpa using ⟨h1,h2⟩,by simp [Cond.cols],by simp [yA,Cond.size],by simp,λ_ _=>nofun⟩
theorem z6O(a b:List (V×Cond)):yA (a ++ b)=yA a + yA b:=by simp [yA]
theorem z8D(a:Side):a.cols.length<=1:=by cases a <;> simp [Side.cols]
inductive spNamed (K:W.Frag) (vs:List V) (H:Hp) (Q:VK) (E:XK):Prop
 | mk:∀c vc,vs= [vc]->zG H c vc->c.size<=1000->(∀(l:Addr) (ss:List Str) (H':Hp),zz H H'->H' l=some (.lst (ss.map V.str))->(∀s,s∈ss↔s∈c.cols)->ss.length<=2 * c.size->(∀a b,c= .same a b->ss=c.cols)->Q (.ref l) H')->spNamed K vs H Q E
theorem yx:FnScope ["_law_condition","_law_names","_law_todo","_law_part"] ["_law_condition"] (zm z0o):=by walk_at "s"
theorem z56(F:Fun K "_law_named" "_law_named" z0o f fd)(T:Txt K mg):FnOk P w K mg base CX0 1 f fd ["_law_condition"] (spNamed K):=by
 refine F.okB yx (λvs H Q E h=> ?_) (λvs H Q E h=> ?_)
 ·obtain⟨c,vc,rfl,_⟩:=h
  rfl
 obtain⟨c,vc,rfl,hc,hz,q⟩:=h;intro ad A outer sh hr;have hu:=z1x hr;refine⟨_,(zc (seT 1 yx (zw zb))
  (zc (seT 2 yx (zw (zf v0 zb)))
  (zc (z7d (cmT (z4w hu) v2 (zw zb))
   (zc (seT 3 yx (z3d qB QZ w00 z3p v2))
   (zg (zC (yb yk (ixT v3 zd) (zw (zo zi (zo zi zb))) (by with_unfolding_all rfl))
    (zg (seT 1 yx (zr kH v1 (yI rfl (CompSc.of (sx:=zm z0o) (NX:= ["_law_condition","_law_names","_law_todo","_law_part"]) (fr:= []) (ix:= []) rfl rfl (by decide +kernel)) (z3q (jc z14 v3 (jk zd) jx)) (λ_ _ _ _ _ _=>(z0s (zY (zR (z6h (K:=K) rfl) rfl T.isinstance wO (zf v0 (zf (jQ (v:= .ty "str") rfl T.str Q0 rfl) zb)))))) (λ_ _ _ _ _ _=>v0)))))
    (zg (seT 2 yx (zr kH v2 (jg yo rfl T.list qR (zj (jc z14 v3 (jk zd) jx) zb)))))))))
  (zg (zt v1))))),?_⟩
 generalize hK0:K=K1
 revert K1
 refine jq (by walk_at "cl") ?_;refine⟨(zq rfl),λnp aA=> ?_⟩;refine ze (upd _ np _) rfl aA λH1 n1 x1=> ?_
 refine !⟨(zq rfl),λtp N=> ?_⟩;have fw:H tp=none:=n1.free N;have uC:np≠tp:=λz=>by rw [z,N]at x1;cases x1
 have r:=n1.trans (zJ N (.lst [vc]));refine z2Q ?_;dsimp only;refine z45 ?_;refine z0N (λm σ H'=>∃(fs:List (V×Cond)) (ss:List Str) (np tp:Addr) (o3:Option V),σ= [some vc,some (.ref np),some (.ref tp),o3]/\zz H H'/\H' np=some (.lst (ss.map V.str))/\H' tp=some (.lst (fs.map (·.1)))/\H tp=none/\np≠tp/\(∀g∈fs,zG H g.2 g.1)/\(∀s,s∈c.cols↔s∈ss\/∃g∈fs,s∈g.2.cols)/\
   ss.length + 2 * yA fs<=2 * c.size/\(∀a b,c= .same a b->fs= [(vc,c)]/\ss= []\/fs= []/\ss=c.cols)/\m=yA fs) (yA [(vc,c)])
  ⟨[(vc,c)],[],np,tp,none,rfl,r,by rw [zn uC];exact x1,zl,fw,uC,by simpa using hc,by simp,by simp [yA],λ_ _ _=> .inl ⟨rfl,rfl⟩,rfl⟩ ?_
 rintro m σ H' ⟨fs,ss,np,tp,o3,rfl,sH,hn,ht,fr,ne,hf,mem,len,sp,rfl⟩;refine !⟨(zq rfl),λep S=> ?_⟩;refine ze (upd _ ep _) rfl S λH2 r x2=> ?_
 refine⟨tp,ep,_,rfl,rfl,SqL.of (r _ _ ht),SqL.of x2,!?_⟩;have s2:=sH.trans r;by_cases ao:fs= []
 ·subst ao;refine ifF (by rfl) ?_;exact !(q np ss H2 s2 (r _ _ hn) (λs=>by rw [mem s];simp) (by simpa [yA]using len) λa b e=>(sp a b e).elim (λz=>by cases z.1) (λz=>z.2))
 ·obtain⟨gs,⟨G,d⟩,rfl⟩:=z42 ao;refine ifT (by simp) ?_;refine zcF λD hN _=> ?_
  have Y:=r _ _ ht;have gG:=r _ _ hn;have hg:zG H d G:=hf (G,d) (by simp);have g9:∀g∈gs,zG H g.2 g.1:=λg h=>hf g (by simp [h])
  have e1:((gs ++ [(G,d)]).map (·.1))=gs.map (·.1) ++ [G]:=by rw [wK];rfl
  rw [e1]at Y;rw [z1a]at len;replace len:ss.length + 2 * (yA gs + d.size)<=2 * c.size:=len;have Ed:=z48 gs;refine !⟨.inl ⟨rfl,_,SqL.of Y⟩,tp,ex2 rfl rfl ⟨Y,z2c _ _,?_⟩⟩;rw [w08];have o:zz H (upd H2 tp (.lst (gs.map (·.1)))):=s2.put fr;have C:upd H2 tp (.lst (gs.map (·.1))) tp=some (.lst (gs.map (·.1))):=zl;have L:upd H2 tp (.lst (gs.map (·.1))) np=some (.lst (ss.map V.str)):=by rw [zn ne];exact gG
  generalize upd H2 tp (.lst (gs.map (·.1)))=H3 at o C L ⊢;rcases z7A hg with⟨p,wd,a,b,rfl,hp,bx,ec⟩ | ⟨p,wd,ks,rfl,hp,bx,pD,fM,xP,dg,dI⟩
  ·refine !(zh (o _ _ hp) zF ⟨(zq rfl),λlp R=> ?_⟩);refine ze (upd _ lp _) rfl R λH4 B U=> ?_
   refine⟨lp,!⟨.inl (SqL.of U),rfl,rfl,!?_⟩⟩;refine ifT bx ?_;have M:=o.trans B;refine !(!(!⟨p,!⟨SqT.of (M _ _ hp),z3b _ _,λt ht=> ?_⟩⟩));rw [z3j];refine ze (upd _ t _) rfl ht λH5 O I=> ?_
   refine⟨t,rfl,⟨_,SqT.of I⟩,?_⟩;have la:=z8D a;have lb:=z8D b;refine z6W (xs:= [a.v,b.v]) (λi ys H'=>H'=H5/\ys=(([a,b].take i).flatMap Side.cols).map V.str) ⟨rfl,rfl⟩ ?_ ?_ ?_
   ·rintro i ys H' hi ⟨rfl,rfl⟩;refine⟨SqT.of I,zK ?_⟩;rcases i with _ | _ | i <;> simp <;> lia
   ·rintro i x ys H' hi ⟨rfl,rfl⟩;obtain⟨sd,ol,rfl⟩:∃sd,[a,b][i]? =some sd/\x=sd.v:=by
     rcases i with _ | _ | i
     ·exact⟨a,rfl,(Option.some.inj hi).symm⟩
     ·exact⟨b,rfl,(Option.some.inj hi).symm⟩
     ·cases hi
    have ek: [a,b].take (i + 1)= [a,b].take i ++ [sd]:=by rw [q5,ol];rfl
    rw [ek,w0O,wK];cases sd with
    | nm m=>
     refine !⟨_,_,_,!⟨TyOf.str m,jC,!?_⟩⟩;refine z9L ?_;exact !⟨rfl,rfl⟩
    | nu m=>
     refine !⟨_,_,_,!⟨TyOf.int m,z09,!?_⟩⟩;refine z7E ?_;exact⟨rfl,(Q3 _).symm⟩
   ·rintro ys H' ⟨rfl,rfl⟩ cp aI;refine ze (upd _ cp _) rfl aI λH6 X J=> ?_
    have e6:([a,b].take [a.v,b.v].length).flatMap Side.cols=d.cols:=by rw [ec];simp
    rw [e6]at J;have lc:d.cols.length<=2:=by rw [ec,wg];lia
    have z3:=d.size_pos;have n:=B.trans (O.trans X);refine⟨np,cp,ex2 rfl rfl ⟨n _ _ L,J,je (by rw [w9,w9];lia),λl hl=> ?_⟩⟩;refine ze (upd _ l _) rfl hl λH7 n7 y=> ?_
    have u:=n.trans n7;have lt:l≠tp:=λz=>by rw [z,n _ _ C]at hl;cases hl
    rw [<-wK]at y;refine hN _ _ ⟨yA gs,by rw [z1a];show _ < yA gs + d.size;lia,gs,ss ++ d.cols,l,tp,_,rfl,o.trans u,y,u _ _ C,fr,lt,g9,λs=> ?_,by rw [wg];lia,λa' b' e=> ?_,rfl⟩
    ·rw [mem s,wA];constructor
     ·rintro(h | ⟨g,hg,h⟩)
      ·exact .inl (.inl h)
      ·rcases wA.mp hg with hg | hg
       ·exact .inr ⟨g,hg,h⟩
       ·rw [wz.mp hg]at h;exact .inl (.inr h)
     ·rintro((h | h) | ⟨g,hg,h⟩)
      ·exact .inl h
      ·exact .inr ⟨(V.ref p,d),by simp,h⟩
      ·exact .inr ⟨g,qc _ hg,h⟩
    ·rcases sp a' b' e with⟨z1,z2⟩ | ⟨z1,_⟩
     ·cases gs with
      | nil=>cases z1;exact .inr ⟨rfl,by rw [z2];rfl⟩
      | cons g gs=>simp at z1
     ·simp at z1
  ·refine !(zh (o _ _ hp) zF ⟨(zq rfl),λlp R=> ?_⟩);refine ze (upd _ lp _) rfl R λH4 B U=> ?_
   refine⟨lp,!⟨.inl (SqL.of U),rfl,rfl,!?_⟩⟩;refine ifF bx ?_;have M:=o.trans B;refine !(!(!⟨p,!⟨SqT.of (M _ _ hp),z3b _ _,λt ht=> ?_⟩⟩));rw [z3j];refine ze (upd _ t _) rfl ht λH5 O I=> ?_
   refine⟨t,!⟨.inr (SqT.of I),λl hl=> ?_⟩⟩;refine ze (upd _ l _) rfl hl λH6 X J=> ?_
   have n:=B.trans (O.trans X);refine⟨tp,l,ex2 rfl rfl ⟨n _ _ C,J,je (by rw [w9,w9];lia),λZ j=> ?_⟩⟩;refine ze (upd _ Z _) rfl j λH7 n7 y=> ?_
   have u:=n.trans n7;have lt:np≠Z:=λz=>by rw [<-z,n _ _ L]at j;cases j
   rw [<-wK]at y;refine hN _ _ ⟨yA (gs ++ ks),by rw [z1a,z6O];show _ < yA gs + d.size;lia,gs ++ ks,ss,np,Z,_,rfl,o.trans u,u _ _ L,y,(o.trans n).free j,lt,λg hg=>(wA.mp hg).elim (g9 g) (pD g),λs=> ?_,by rw [z6O];lia,λa' b' e=> ?_,rfl⟩
   ·rw [mem s];constructor
    ·rintro(h | ⟨g,hg,h⟩)
     ·exact .inl h
     ·rcases wA.mp hg with hg | hg
      ·exact .inr ⟨g,qc _ hg,h⟩
      ·rw [wz.mp hg]at h;obtain⟨k,hk,h⟩:=(fM s).mp h;exact .inr ⟨k,wG _ hk,h⟩
    ·rintro(h | ⟨g,hg,h⟩)
     ·exact .inl h
     ·rcases wA.mp hg with hg | hg
      ·exact .inr ⟨g,qc _ hg,h⟩
      ·exact .inr ⟨(V.ref p,d),by simp,(fM s).mpr ⟨g,hg,h⟩⟩
   ·rcases sp a' b' e with⟨z1,z2⟩ | ⟨z1,_⟩
    ·cases gs with
     | nil=>cases z1;exact absurd e (dI a' b')
     | cons g gs=>simp at z1
    ·simp at z1
def z7Q(H:Hp)(xs:List V)(o:Option Qn):Prop:=(o=none/\xs= [])\/∃q v,o=some q/\xs= [v]/\QAt H q v
def zd8(mk:Qn->Qn->Qn)(ip:Bool):Prop:=mk= .pair/\ip=true\/∃x y,mk= .join x y/\ip=false
theorem zbh{a b:Qn}{v:V}(hm:zd8 mk ip)(hq:QAt H (mk a b) v):∃(p:Addr) (pre:List V) (x y:V),v= .ref p/\H p=some (.tup (pre ++ [x,y]))/\QAt H a x/\QAt H b y/\atI (pre ++ [x,y]) (-2)=some x/\atI (pre ++ [x,y]) (-1)=some y/\
  z0H (pre ++ [x,y]) none (some (-2))=pre/\z0H (pre ++ [x,y]) none (some (-1))=pre ++ [x]/\(∀j:Int,j= -2\/j= -1->¬(HT.sIx (pre ++ [x,y]).length 0 none=0/\HT.sIx (pre ++ [x,y]).length (pre ++ [x,y]).length (some j)=(pre ++ [x,y]).length))/\
  atI (pre ++ [x,y]) 0=some (.str (if ip=true then "pair" else "join"))/\(ip=true->pre= [.str "pair"])/\pre.length<=3/\pre≠ []/\∀(H':Hp) (p':Addr) (d c:V) (a' b':Qn),H' p'=some (.tup (pre ++ [d,c]))->QAt H' a' d->QAt H' b' c->QAt H' (mk a' b') (.ref p'):=by
 rcases hm with⟨rfl,rfl⟩ | ⟨u,w,rfl,rfl⟩
 ·obtain⟨p,x,y,rfl,h1,h2,i⟩:=hq;refine⟨p,[.str "pair"],x,y,rfl,h1,h2,i,rfl,rfl,rfl,rfl,λj h=> ?_,rfl,λ_=>rfl,by decide,by simp,λH' p' d c a' b' e l f=>⟨p',d,c,rfl,e,l,f⟩⟩;rcases h with rfl | rfl
  ·show¬(HT.sIx 3 0 none=0/\HT.sIx 3 3 (some (-2))=3);decide
  ·show¬(HT.sIx 3 0 none=0/\HT.sIx 3 3 (some (-1))=3);decide
 ·obtain⟨p,x,y,rfl,h1,h2,i⟩:=hq;refine⟨p,[.str "join",.str u,.str w],x,y,rfl,h1,h2,i,rfl,rfl,rfl,rfl,λj h=> ?_,rfl,nofun,by simp,by simp,λH' p' d c a' b' e l f=>⟨p',d,c,rfl,e,l,f⟩⟩;rcases h with rfl | rfl
  ·show¬(HT.sIx 5 0 none=0/\HT.sIx 5 5 (some (-2))=5);decide
  ·show¬(HT.sIx 5 0 none=0/\HT.sIx 5 5 (some (-1))=5);decide
theorem z1c{a b:Qn}(h1:¬jU c.cols (za th a)=true)(h2:¬jU c.cols (za th b)=true)(h:ip=false\/∀x y,c≠ .same (.nm x) (.nm y)):jy th c mk ip a b=none:=by
 unfold jy;rw [wU h1,wU h2];split
 ·rcases h with h | h
  ·cases h
  ·exact absurd rfl (h _ _)
 ·rfl
theorem z7m{a b:Qn}{s1 s2:Side}(ok:(Cond.same s1 s2).ok (za th a ++ za th b))(h1:¬jU (Cond.same s1 s2).cols (za th a)=true)(h2:¬jU (Cond.same s1 s2).cols (za th b)=true):
  ∃x y u w,s1= .nm x/\s2= .nm y/\(s1.cols ++ s2.cols).filter (λs=>decide (s∈za th a))= [u]/\(s1.cols ++ s2.cols).filter (λs=> not (decide (s∈za th a)))= [w]/\yB th x y a b= .join u w a b:=by
 rw [jv]at h1 h2;have one:∀{z:Str},z∈za th a ++ za th b->(Cond.same s1 s2).cols= [z]->False:=λ{z} hz e=>by
  rw [e]at h1 h2;rcases wA.mp hz with h | h
  ·exact h1 (by simpa using h)
  ·exact h2 (by simpa using h)
 cases s1 with
 | nu i=>
  cases s2 with
  | nu j=>exact absurd (by simp [Cond.cols,Side.cols]) h1
  | nm y=>exact(one (show y∈_ from ok.2) rfl).elim
 | nm x=>
  cases s2 with
  | nu j=>exact(one (show x∈_ from ok.1) rfl).elim
  | nm y=>
   have f:=wA.mp (show x∈_ from ok.1);have d:=wA.mp (show y∈_ from ok.2);simp only [Cond.cols,Side.cols,wA,wz,forall_eq_or_imp,forall_eq]at h1 h2;by_cases hxa:x∈za th a
   ·have c:y∉za th a:=λz=>h1 ⟨hxa,z⟩
    exact⟨x,y,x,y,rfl,rfl,by simp [Side.cols,hxa,c],by simp [Side.cols,hxa,c],by unfold yB;rw [wY hxa]⟩
   ·have c:y∈za th a:=d.resolve_right λz=>h2 ⟨f.resolve_left hxa,z⟩
    exact⟨x,y,y,x,rfl,rfl,by simp [Side.cols,hxa,c],by simp [Side.cols,hxa,c],by unfold yB;rw [wU hxa]⟩
theorem z8v{z:V}(hi:(ss.map V.str)[i]? =some z):∃s,ss[i]? =some s/\z= .str s:=by
 rw [wQ]at hi;cases hg:ss[i]? with
 | none=>rw [hg]at hi;cases hi
 | some s=>rw [hg]at hi;exact⟨s,rfl,(Option.some.inj hi).symm⟩
inductive spParted (K:W.Frag) (vs:List V) (H:Hp) (Q:VK) (E:XK):Prop
 | mk:∀th tr c mk ip a b vc v tp,vs= [vc,v,.ref tp]->TabOk th tr->jz th tr H tp->zG H c vc->c.size<=20->zd8 mk ip->c.ok (za th a ++ za th b)->QAt H (mk a b) v->wfQ th a->(∀n∈za th a,n∉za th b)->depth a<=160->(∀(l:Addr) (xs:List V) (H':Hp),zz H H'->H' l=some (.lst xs)->z7Q H' xs (jy th c mk ip a b)->Q (.ref l) H')->spParted K vs H Q E
theorem yG:FnScope ["_law_condition","_law_inner","_law_tables","_law_left","_law_names","_law_ahead","_law_other"] ["_law_condition","_law_inner","_law_tables"] (zm yM):=by walk_at "s"
theorem z4Q(F:Fun K "_law_parted" "_law_parted" yM f fd)(T:Txt K mg)(d:Kn P w K mg base 160 "_law_headed_by" ["_law_asked","_law_tables"] (spHdBy K 160))(o:Kn P w K mg base 1 "_law_named" ["_law_condition"] (spNamed K)):FnOk P w K mg base CX0 161 f fd ["_law_condition","_law_inner","_law_tables"] (spParted K):=by
 refine F.okB yG (λvs H Q E h=> ?_) (λvs H Q E h=> ?_)
 ·obtain⟨th,tr,c,mk,ip,a,b,vc,v,tp,rfl,_⟩:=h
  rfl
 obtain⟨th,tr,c,mk,ip,a,b,vc,v,tp,rfl,TT,h4,hc,hz,hm,ok,hq,wf,dj,hd,fin⟩:=h;obtain⟨p,pre,x,y,rfl,hp,ha,hb,i2,i1,c2,c1,nw,i0,rj,Ax,rm,uD⟩:=zbh hm hq;have wh:=jL TT wf;intro ad A outer sh hr;have hu:=z1x hr;refine⟨_,(zc (kf (i:=3) yG.nd rfl (QO rfl) (zW d hr.m (zj (ixT v1 (z0z yU zd)) (zf v2 zb))))
  (zc (seT 4 yG (zW o hr.m (zf v0 zb)))
  (zc (jG (j:=5) rfl yG.nd rfl (w02 rfl) (CompSc.of (sx:=zm yM) (NX:= ["_law_condition","_law_inner","_law_tables","_law_left","_law_names","_law_ahead","_law_other"]) (fr:= ["_law_left"]) (ix:= [3]) rfl rfl (by decide +kernel)) (jb v4) (λ_ _ _ _ _ _=>(z0s (yb (z4I (K:=K) rfl) v0 v1 (by with_unfolding_all rfl)))) (λ_ _ _ _ _ _=>v0))
  (zc (zC (cmT zM (leN T.len (zf v5 zb)) (leN T.len (zf v4 zb)))
   (zg (zt (zw (yy (zr z3Z (jc z14 v1 jx (jk (z0z yU zd))) (zB (zH (zB (zo zi (zf v0 (zj (ixT v1 (z0z yU zd)) zb)))) (zj (ixT v1 (z0z yU zd)) zb)))) zb))))
   zu)
  (zc (zC (cmT (z1M hu) v5 (zw zb))
   (zg (zt (zw (yy (zr z3Z (jc z14 v1 jx (jk (z0z yU zd))) (zB (zH (zB (zo zi (zf v0 (zj (ixT v1 (z0z yU zd)) zb)))) zb))) zb))))
   zu)
  (zc (zC (PW.pt (z2F (cmT zM (ixT v1 zd) zi) (z1V (cmT z05 (ixT v0 zd) zi))))
   (zg (zt (zw zb)))
   zu)
  (zc (jG (j:=6) rfl yG.nd rfl (w02 rfl) (CompSc.of (sx:=zm yM) (NX:= ["_law_condition","_law_inner","_law_tables","_law_left","_law_names","_law_ahead","_law_other"]) (fr:= ["_law_left"]) (ix:= [3]) rfl rfl (by decide +kernel)) (jb v4) (λ_ _ _ _ _ _=>(z0s (yb (z4Z (K:=K) rfl) v0 v1 (by with_unfolding_all rfl)))) (λ_ _ _ _ _ _=>v0))
  (zg (zt (zw (zH (zB (zo zi (zj (ixL v5 zd) (zj (ixL (pv 6) zd) (zj (ixT v1 zd) (zj (ixT v1 zd) zb)))))) zb))))))))))),?_⟩
 generalize hK0:K=K1
 revert K1
 refine jq (by walk_at "cl") ?_;refine !(!(zh hp i2 (!⟨th,tr,a,x,tp,rfl,TT,h4,ha,wf,hd,λlp H1 n1 x1=> ?_⟩)));refine !⟨c,vc,rfl,hc.mono λb xs z=>n1 _ _ z,by lia,λnp ss H2 n2 L Z hlen G=> ?_⟩;have uE:=n2 _ _ x1;refine !⟨np,rfl,⟨_,SqL.of L⟩,?_⟩;refine kI (xs:=ss.map V.str) (λi ys H'=>H'=H2/\ys=((ss.take i).filter λs=>decide (s∈za th a)).map V.str) ⟨rfl,rfl⟩ ?_ ?_ ?_
 ·rintro i ys H' hi ⟨rfl,rfl⟩;refine⟨SqL.of L,zK ?_⟩;have:=qE (λs=>decide (s∈za th a)) (ss.take i);rw [w9];rw [wX]at this
  lia
 ·rintro i z ys H' hi ⟨rfl,rfl⟩;obtain⟨s,hs,rfl⟩:=z8v hi;have ek:ss.take (i + 1)=ss.take i ++ [s]:=by rw [q5,hs];rfl
  rw [ek,w0w,wK];refine !(!⟨lp,!⟨.inl (SqL.of uE),rfl,jo _,!?_⟩⟩);by_cases e:s∈za th a
  ·refine ifT (by rw [z23];exact wS e) ?_;exact !⟨rfl,by rw [qV (by simpa using e)];rfl⟩
  ·refine ifF (by rw [z23];exact wL e) ?_;exact⟨rfl,by rw [w0b (by simpa using e)];exact(Q3 _).symm⟩
 rintro ys H' ⟨rfl,rfl⟩ ap Ay;rw [w9,qH];refine ze (upd _ ap _) rfl Ay λH3 n3 x3=> ?_
 have B:=n1.trans (n2.trans n3);have S:=B _ _ hp;have c3:zG H3 c vc:=hc.mono λb xs z=>B _ _ z
 refine !⟨ap,!⟨.inl (SqL.of x3),!⟨np,!⟨.inl (SqL.of (n3 _ _ L)),rfl,!?_⟩⟩⟩⟩;have ie:=qE (λs=>decide (s∈za th a)) ss;by_cases bf:jU c.cols (za th a)=true
 ·have rn:ss.filter (λs=>decide (s∈za th a))=ss:=w1g.mpr λs hs=>wS (jv.mp bf s ((Z s).mp hs))
  refine ifT (by rw [rn];exact wS rfl) ?_;have ep:jy th c mk ip a b=some (mk (.pick c a) b):=by unfold jy;rw [wY bf]
  refine !(!(!⟨p,!⟨SqT.of S,nw _ (.inl rfl),λt ht=> ?_⟩⟩));refine ze (upd _ t _) rfl ht λH4 r x4=> ?_
  refine !(!(!(zh (r _ _ S) i2 ⟨(zq rfl),λkp eL=> ?_⟩)));refine ze (upd _ kp _) rfl eL λC n q=> ?_
  refine !(!(zh ((r.trans n) _ _ S) i1 ⟨(zq rfl),λup lR=> ?_⟩));refine ze (upd _ up _) rfl lR λH6 I N=> ?_
  have Az:H4 t=some (.tup pre):=x4.trans (by rw [c2]);refine⟨t,up,_,_,rfl,rfl,SqT.of ((n.trans I) _ _ Az),SqT.of N,rm,je (by show pre.length + 2<=_;lia),(λz=>by cases z),λ_ fp bS=> ?_⟩;refine ze (upd _ fp _) rfl bS λH7 J R=> ?_
  refine⟨(zq rfl),λl hl=> ?_⟩;refine ze (upd _ l _) rfl hl λH8 U x8=> ?_
  have bA:=I.trans (J.trans U);have Y:=r.trans (n.trans bA);refine fin l _ H8 (B.trans Y) x8 (.inr ⟨_,_,ep,rfl,uD _ _ _ _ _ _ (U _ _ R) ⟨kp,_,_,rfl,bA _ _ q,c3.mono λb xs z=>Y _ _ z,ha.same (B.trans Y)⟩ (hb.same (B.trans Y))⟩)
 ·have AA:¬(ss.filter (λs=>decide (s∈za th a))).length=ss.length:=λz=>bf (jv.mpr λs hs=>by
   have:=w1g.mp (List.filter_sublist.eq_of_length z) s ((Z s).mpr hs);exact qD this)
  refine ifF (wL λz=>AA ?_) ?_
  ·injection z with z
   rw [w9,w9]at z
   exact_mod_cast z
  refine !⟨(zq rfl),λep ac=> ?_⟩;refine ze (upd _ ep _) rfl ac λH4 r x4=> ?_
  have rq:=r _ _ x3;have M:=r _ _ S;refine⟨ap,ep,_,rfl,rfl,SqL.of rq,SqL.of x4,!?_⟩;by_cases bb:jU c.cols (za th b)=true
  ·have rn:ss.filter (λs=>decide (s∈za th a))= []:=w0p.mpr λs hs z=>dj s (qD z) (jv.mp bb s ((Z s).mp hs))
   refine ifT (by rw [rn];rfl) ?_;have ep:jy th c mk ip a b=some (mk a (.pick c b)):=by unfold jy;rw [wU bf,wY bb]
   refine !(!(!⟨p,!⟨SqT.of M,nw _ (.inr rfl),λt ht=> ?_⟩⟩));refine ze (upd _ t _) rfl ht λC n q=> ?_
   refine !(!(!(zh (n _ _ M) i1 ⟨(zq rfl),λkp eL=> ?_⟩)));refine ze (upd _ kp _) rfl eL λH6 I N=> ?_
   refine⟨(zq rfl),λup lR=> ?_⟩;refine ze (upd _ up _) rfl lR λH7 J R=> ?_
   have AB:C t=some (.tup (pre ++ [x])):=q.trans (by rw [c1]);refine⟨t,up,_,_,rfl,rfl,SqT.of ((I.trans J) _ _ AB),SqT.of R,by simp,je (by rw [wg];show pre.length + 1 + 1<=_;lia),(λz=>by cases z),λ_ fp bS=> ?_⟩;refine ze (upd _ fp _) rfl bS λH8 U x8=> ?_
   refine⟨(zq rfl),λl hl=> ?_⟩;refine ze (upd _ l _) rfl hl λH9 n9 x9=> ?_
   have uF:=J.trans (U.trans n9);have gX:=r.trans (n.trans (I.trans uF));have AC:H8 fp=some (.tup (pre ++ [x,.ref kp])):=x8.trans (by rw [Qv];rfl);refine fin l _ H9 (B.trans gX) x9 (.inr ⟨_,_,ep,rfl,uD _ _ _ _ _ _ (n9 _ _ AC) (ha.same (B.trans gX)) ⟨kp,_,_,rfl,uF _ _ N,c3.mono λb xs z=>gX _ _ z,hb.same (B.trans gX)⟩⟩)
  ·obtain⟨X,uG,AD⟩:∃s,s∈c.cols/\s∉za th b:=by
    refine Classical.byContradiction λz=>bb (jv.mpr λs hs=>Classical.byContradiction λy=>z ⟨s,hs,y⟩)
   have AE:X∈za th a:=(wA.mp (z1b ok X uG)).resolve_right AD;have rA:ss.filter (λs=>decide (s∈za th a))≠ []:=λz=>by
    have:=w0p.mp z X ((Z X).mpr uG);exact this (wS AE)
   refine ifF (by cases hh:ss.filter (λs=>decide (s∈za th a))with | nil=>exact absurd hh rA | cons x xs=>rfl) ?_;refine !(zh M i0 ⟨rfl,!?_⟩);cases ip with
   | false=>
    refine ifT (by decide +kernel) ?_;refine ifT rfl ?_;refine⟨(zq rfl),λl hl=> ?_⟩;refine ze (upd _ l _) rfl hl λC n q=> ?_
    exact fin l [] C (B.trans (r.trans n)) q (.inl ⟨z1c bf bb (.inl rfl),rfl⟩)
   | true=>
    refine ifF (by decide +kernel) ?_;obtain rfl:=rj rfl;have O:zG H4 c vc:=c3.mono λb xs z=>r _ _ z
    cases c with
    | same s1 s2=>
     obtain⟨cp,rfl,D⟩:=O;refine !(zh D zF ⟨rfl,!?_⟩);refine ifF (by decide +kernel) ?_;have es:ss=s1.cols ++ s2.cols:=G s1 s2 rfl;obtain⟨x0,y0,u,w0,rfl,rfl,fa,fo,ej⟩:=z7m ok bf bb;rw [<-es]at fa fo;have ep:jy th (.same (.nm x0) (.nm y0)) mk true a b=some (.join u w0 a b):=by
      unfold jy;rw [wU bf,wU bb,<-ej]
     have ni:=n3.trans r;have rB:=ni _ _ L;refine !⟨np,rfl,⟨_,SqL.of rB⟩,?_⟩;refine kI (xs:=ss.map V.str) (λi ys H'=>H'=H4/\ys=((ss.take i).filter λs=> not (decide (s∈za th a))).map V.str) ⟨rfl,rfl⟩ ?_ ?_ ?_
     ·rintro i ys H' hi ⟨rfl,rfl⟩;refine⟨SqL.of rB,zK ?_⟩;have:=qE (λs=> not (decide (s∈za th a))) (ss.take i);rw [w9];rw [wX]at this
      lia
     ·rintro i z ys H' hi ⟨rfl,rfl⟩;obtain⟨s,hs,rfl⟩:=z8v hi;have ek:ss.take (i + 1)=ss.take i ++ [s]:=by rw [q5,hs];rfl
      rw [ek,w0w,wK];refine !(!⟨lp,!⟨.inl (SqL.of (ni _ _ uE)),rfl,jo _,!?_⟩⟩);by_cases e:s∈za th a
      ·refine ifF (by show(not (inV _ _))=false;rw [z23,wS e];rfl) ?_;exact⟨rfl,by rw [w0b (by simpa using e)];exact(Q3 _).symm⟩
      ·refine ifT (by show(not (inV _ _))=true;rw [z23,wL e];rfl) ?_;exact !⟨rfl,by rw [qV (by simpa using e)];rfl⟩
     rintro ys H' ⟨rfl,rfl⟩ op AF;rw [w9,qH,fo];refine ze (upd _ op _) rfl AF λC n q=> ?_
     rw [fa]at rq;refine !(zx (n _ _ rq) zF (!(zx q zF (!(zh (n _ _ M) j6 (!(zh (n _ _ M) jr ⟨(zq rfl),λjp ae=> ?_⟩)))))));refine ze (upd _ jp _) rfl ae λH6 I N=> ?_
     refine⟨(zq rfl),λl hl=> ?_⟩;refine ze (upd _ l _) rfl hl λH7 J R=> ?_
     have aX:=B.trans (r.trans (n.trans (I.trans J)));exact fin l _ H7 aX R (.inr ⟨_,_,ep,rfl,jp,x,y,rfl,J _ _ N,ha.same aX,hb.same aX⟩)
    | less s1 s2=>
     obtain⟨cp,rfl,D⟩:=O;refine !(zh D zF ⟨rfl,!?_⟩);refine ifT (by decide +kernel) ?_;refine⟨(zq rfl),λl hl=> ?_⟩;refine ze (upd _ l _) rfl hl λC n q=> ?_
     exact fin l [] C (B.trans (r.trans n)) q (.inl ⟨z1c bf bb (.inr λ_ _=>nofun),rfl⟩)
    | no c1=>
     obtain⟨cp,x1,rfl,D,_⟩:=O;refine !(zh D zF ⟨rfl,!?_⟩);refine ifT (by decide +kernel) ?_;refine⟨(zq rfl),λl hl=> ?_⟩;refine ze (upd _ l _) rfl hl λC n q=> ?_
     exact fin l [] C (B.trans (r.trans n)) q (.inl ⟨z1c bf bb (.inr λ_ _=>nofun),rfl⟩)
    | an c1 c2=>
     obtain⟨cp,x1,L,rfl,D,_⟩:=O;refine !(zh D zF ⟨rfl,!?_⟩);refine ifT (by decide +kernel) ?_;refine⟨(zq rfl),λl hl=> ?_⟩;refine ze (upd _ l _) rfl hl λC n q=> ?_
     exact fin l [] C (B.trans (r.trans n)) q (.inl ⟨z1c bf bb (.inr λ_ _=>nofun),rfl⟩)
    | or c1 c2=>
     obtain⟨cp,x1,L,rfl,D,_⟩:=O;refine !(zh D zF ⟨rfl,!?_⟩);refine ifT (by decide +kernel) ?_;refine⟨(zq rfl),λl hl=> ?_⟩;refine ze (upd _ l _) rfl hl λC n q=> ?_
     exact fin l [] C (B.trans (r.trans n)) q (.inl ⟨z1c bf bb (.inr λ_ _=>nofun),rfl⟩)
theorem z2q{v:V}(h:QAt H q v):∃p xs,v= .ref p/\H p=some (.tup (.str (j9 q) :: xs)):=by
 cases q with
 | table | first | group | sort=>obtain⟨p,h⟩:=h;first | exact⟨p,_,h.1,h.2⟩ | (obtain⟨y,e,h,_⟩:=h;exact⟨p,_,e,h⟩)
 | pick | cols | pair | join | both=>obtain⟨p,x,y,e,h,_⟩:=h;exact⟨p,_,e,h⟩
theorem zf4{v:V}(h:QAt H q v):∃p x xs,v= .ref p/\H p=some (.tup (.str (j9 q) :: x :: xs))/\(yY x=true\/∃p' zs,x= .ref p'/\H p'=some (.tup zs)):=by
 cases q with
 | table n=>obtain⟨p,e,h⟩:=h;exact⟨p,_,_,e,h,.inl rfl⟩
 | pick c r=>obtain⟨p,x,y,e,h,h2,_⟩:=h;obtain⟨p',zs,d,h'⟩:=h2.ref;exact⟨p,_,_,e,h,.inr ⟨p',zs,d,h'⟩⟩
 | cols ns r=>obtain⟨p,x,y,e,h,h2,_⟩:=h;exact⟨p,_,_,e,h,.inr ⟨_,_,rfl,h2⟩⟩
 | pair a b=>obtain⟨p,x,y,e,h,h2,_⟩:=h;obtain⟨p',zs,d,h'⟩:=z2q h2;exact⟨p,_,_,e,h,.inr ⟨p',_,d,h'⟩⟩
 | both a b=>obtain⟨p,x,y,e,h,h2,_⟩:=h;obtain⟨p',zs,d,h'⟩:=z2q h2;exact⟨p,_,_,e,h,.inr ⟨p',_,d,h'⟩⟩
 | join u w a b=>obtain⟨p,x,y,e,h,_⟩:=h;exact⟨p,_,_,e,h,.inl rfl⟩
 | first n r=>obtain⟨p,y,e,h,_⟩:=h;exact⟨p,_,_,e,h,.inl rfl⟩
 | group a b n s r=>obtain⟨p,y,e,h,_⟩:=h;exact⟨p,_,_,e,h,.inl rfl⟩
 | sort a r=>obtain⟨p,y,e,h,_⟩:=h;exact⟨p,_,_,e,h,.inl rfl⟩
theorem sl2{w x:V}{zs:List V}{Q:VK}(h:H p=some (.tup (w :: x :: zs)))(q:∀(t:Addr) (H2:Hp),zz H H2->H2 t=some (.tup [w,x])->Q (.ref t) H2):ze5 K (.ref p) none (some 2) H Q\/zdh K (.ref p) none (some 2) H Q:=by
 cases zs with
 | nil=>exact .inr ⟨p,_,rfl,SqT.of h,by show HT.sIx 2 0 none=0/\HT.sIx 2 2 (some 2)=2;decide,q p H (zz.refl _) h⟩
 | cons z zs=>
  have a:HT.sIx (w :: x :: z :: zs).length (w :: x :: z :: zs).length (some 2)=2:=by
   unfold HT.sIx;simp
   try lia
  have c:HT.sIx (w :: x :: z :: zs).length 0 none=0:=rfl;refine .inl ⟨p,_,rfl,SqT.of h,λe=> ?_,λt ht=> ?_⟩
  ·have:=e.2;rw [a]at this;simp at this
  ·have b:z0H (w :: x :: z :: zs) none (some 2)= [w,x]:=by
    unfold z0H;rw [a,c]
    rfl
   rw [b];exact q t _ (zJ ht _) zl
inductive spFolded (K:W.Frag) (vs:List V) (H:Hp) (Q:VK) (E:XK):Prop
 | mk:∀th q v,vs= [v]->QAt H q v->(∀c r,q≠ .pick c r)->(∀(l:Addr) (xs:List V) (H':Hp),zz H H'->H' l=some (.lst xs)->z7Q H' xs (yc th q)->Q (.ref l) H')->spFolded K vs H Q E
theorem z0C:FnScope ["_law_asked","_law_word","_law_inner"] ["_law_asked"] (zm z0Y):=by walk_at "s"
theorem z4B(F:Fun K "_law_folded" "_law_folded" z0Y f fd)(T:Txt K mg):FnOk P w K mg base CX0 1 f fd ["_law_asked"] (spFolded K):=by
 refine F.okB z0C (λvs H Q E h=> ?_) (λvs H Q E h=> ?_)
 ·obtain⟨th,q,v,rfl,_⟩:=h
  rfl
 obtain⟨th,q,v,rfl,hq,np,fin⟩:=h;have nil:∀{H1:Hp},zz H H1->yc th q=none->∀l,H1 l=none->Q (.ref l) (upd H1 l (.lst [])):=λs e l hl=>fin l [] _ (s.trans (zJ hl _)) zl (.inl ⟨e,rfl⟩)
 intro ad A outer sh hr;have hu:=z1x hr;refine⟨_,(zc (seT 1 z0C (ixT v0 zd))
  (zc (zC (yb yr v1 (zw (zo zi (zo zi (zo zi zb)))) (by with_unfolding_all rfl))
   (zg (zt (zw zb)))
   zu)
  (zc (seT 2 z0C (ixT v0 zd))
  (zc (zC (PW.pt (z0d (cmT zM v1 zi) (kW (cmT zM (ixT v2 zd) zi))))
   (zg (zt (zw (zH (zB (zo zi (zj (ixT v0 zd) (zj (ixT v2 zd) zb)))) zb))))
   zu)
  (zc (zC (PW.pt (z0d (cmT zM v1 zi) (kW (cmT (z6q (K:=K) rfl hu) (jc z8r v2 jx (jk zd)) (jc z14 v0 jx (jk zd))))))
   (zg (zt (zw (zf v2 zb))))
   zu)
  (zc (zC (PW.pt (z0d (cmT zM v1 zi) (kW (cmT zM (ixT v2 zd) zi))))
   (zg (zt (zw (zH (zB (zo zi (zX (zR (z5i rfl) rfl T.min PyProof.Rows.boot_min (zj (ixT v0 zd) (zj (ixT v2 zd) zb))) (zj (ixT v2 zd) zb)))) zb))))
   zu)
  (zc (zC (PW.pt (z0d (cmT zM v1 zi) (kW (cmT zM (ixT v2 zd) zi))))
   (zg (zt (zw (zH (zB (zo zi (zj (ixT v2 zd) (zH (zB (zo zi (zj (ixT v0 zd) (zj (ixT v2 zd) zb)))) zb)))) zb))))
   zu)
  (zg (zt (zw zb)))))))))),?_⟩
 generalize hK0:K=K1
 revert K1
 refine jq (by walk_at "cl") ?_;cases q with
 | pick c r=>exact absurd rfl (np c r)
 | table m=>
  obtain⟨p,rfl,h1⟩:=hq;refine !(zh h1 zF (!⟨(zq rfl),λlp j=> ?_⟩));refine ze (upd _ lp _) rfl j λH1 d x1=> ?_
  refine⟨lp,!⟨.inl (SqL.of x1),rfl,rfl,!?_⟩⟩;refine ifT (by decide +kernel) ?_;exact⟨(zq rfl),nil d rfl⟩
 | pair a b=>
  obtain⟨p,x,y,rfl,h1,h2,i⟩:=hq;refine !(zh h1 zF (!⟨(zq rfl),λlp j=> ?_⟩));refine ze (upd _ lp _) rfl j λH1 d x1=> ?_
  refine⟨lp,!⟨.inl (SqL.of x1),rfl,rfl,!?_⟩⟩;refine ifT (by decide +kernel) ?_;exact⟨(zq rfl),nil d rfl⟩
 | both a b=>
  obtain⟨p,x,y,rfl,h1,h2,i⟩:=hq;refine !(zh h1 zF (!⟨(zq rfl),λlp j=> ?_⟩));refine ze (upd _ lp _) rfl j λH1 d x1=> ?_
  refine⟨lp,!⟨.inl (SqL.of x1),rfl,rfl,!?_⟩⟩;refine ifT (by decide +kernel) ?_;exact⟨(zq rfl),nil d rfl⟩
 | join u w0 a b=>
  obtain⟨p,x,y,rfl,h1,h2,i⟩:=hq;refine !(zh h1 zF (!⟨(zq rfl),λlp j=> ?_⟩));refine ze (upd _ lp _) rfl j λH1 d x1=> ?_
  refine⟨lp,!⟨.inl (SqL.of x1),rfl,rfl,!?_⟩⟩;refine ifT (by decide +kernel) ?_;exact⟨(zq rfl),nil d rfl⟩
 | group a b m s r=>
  obtain⟨p,y,rfl,h1,i⟩:=hq;refine !(zh h1 zF (!⟨(zq rfl),λlp j=> ?_⟩));refine ze (upd _ lp _) rfl j λH1 d x1=> ?_
  refine⟨lp,!⟨.inl (SqL.of x1),rfl,rfl,!?_⟩⟩;refine ifT (by decide +kernel) ?_;exact⟨(zq rfl),nil d rfl⟩
 | cols ns r=>
  obtain⟨p,x,y,rfl,h1,h2,i⟩:=hq;refine !(zh h1 zF (!⟨(zq rfl),λlp j=> ?_⟩));refine ze (upd _ lp _) rfl j λH1 d x1=> ?_
  refine⟨lp,!⟨.inl (SqL.of x1),rfl,rfl,!?_⟩⟩;refine ifF (by decide +kernel) ?_;refine !(zh (d _ _ h1) jr ?_);refine !⟨rfl,!?_⟩;refine ifT (z38 _) ?_;by_cases hw:j9 r="cols"
  ·obtain⟨Z,r,rfl⟩:=kM hw;obtain⟨R,x',S,rfl,n,k2,L⟩:=i;refine !(zh (d _ _ n) zF ⟨rfl,!?_⟩);refine ifT (z38 _) ?_;refine !(zh (d _ _ h1) j6 (!(zh (d _ _ n) jr ⟨(zq rfl),λt ht=> ?_⟩)));refine ze (upd _ t _) rfl ht λH2 G D=> ?_
   refine⟨(zq rfl),λl hl=> ?_⟩;refine ze (upd _ l _) rfl hl λM o I=> ?_
   have B:=d.trans (G.trans o);exact fin l _ M B I (.inr ⟨.cols ns r,_,rfl,rfl,t,_,_,rfl,o _ _ D,B _ _ h2,L.same B⟩)
  ·obtain⟨R,zs,rfl,ck⟩:=z2q i;refine !(zh (d _ _ ck) zF ⟨rfl,!?_⟩);refine ifF (noS hw) ?_;refine !⟨rfl,!?_⟩;refine ifF (noS (by decide +kernel)) ?_;refine ifF rfl ?_;refine !⟨rfl,!?_⟩;refine ifF (noS (by decide +kernel)) ?_;refine ifF rfl ?_;refine !⟨rfl,!?_⟩;refine ifF (noS (by decide +kernel)) ?_;refine ifF rfl ?_;refine⟨(zq rfl),nil d ?_⟩;cases r <;> first | rfl | exact absurd rfl hw
 | first m r=>
  obtain⟨p,y,rfl,h1,i⟩:=hq;refine !(zh h1 zF (!⟨(zq rfl),λlp j=> ?_⟩));refine ze (upd _ lp _) rfl j λH1 d x1=> ?_
  refine⟨lp,!⟨.inl (SqL.of x1),rfl,rfl,!?_⟩⟩;refine ifF (by decide +kernel) ?_;refine !(zh (d _ _ h1) jr ?_);refine !⟨rfl,!?_⟩;refine ifF (noS (by decide +kernel)) ?_;refine ifF rfl ?_;refine !⟨rfl,!?_⟩;refine ifF (noS (by decide +kernel)) ?_;refine ifF rfl ?_;refine !⟨rfl,!?_⟩;refine ifT (z38 _) ?_;by_cases hw:j9 r="first"
  ·obtain⟨k,r,rfl⟩:=z0J hw;obtain⟨R,S,rfl,n,L⟩:=i;refine !(zh (d _ _ n) zF ⟨rfl,!?_⟩);refine ifT (z38 _) ?_;refine !(zh (d _ _ h1) j6 (!(zh (d _ _ n) j6 ⟨m,k,rfl,!(zh (d _ _ n) jr ⟨(zq rfl),λt ht=> ?_⟩)⟩)));refine ze (upd _ t _) rfl ht λH2 G D=> ?_
   refine⟨(zq rfl),λl hl=> ?_⟩;refine ze (upd _ l _) rfl hl λM o I=> ?_
   have B:=d.trans (G.trans o);have em:(if k < m then k else m)=min m k:=by rw [Int.min_def];split <;> split <;> lia
   rw [em]at D;exact fin l _ M B I (.inr ⟨.first (min m k) r,_,rfl,rfl,t,_,rfl,o _ _ D,L.same B⟩)
  ·obtain⟨Ee,Ef,C,dO⟩:=z2q i;subst C;refine !(zh (d _ _ dO) zF ⟨rfl,!?_⟩);refine ifF (noS hw) ?_;refine !⟨rfl,!?_⟩;refine ifT (z38 _) ?_;by_cases hc:j9 r="cols"
   ·obtain⟨Z,r,rfl⟩:=kM hc;obtain⟨R,x',S,U,n,k2,L⟩:=i;cases U;refine !(zh (d _ _ n) zF ⟨rfl,!?_⟩);refine ifT (z38 _) ?_;refine !(zh (d _ _ n) j6 (!(zh (d _ _ h1) j6 (!(zh (d _ _ n) jr ⟨(zq rfl),λg hg=> ?_⟩)))));refine ze (upd _ g _) rfl hg λH2 G D=> ?_
    refine⟨(zq rfl),λt ht=> ?_⟩;refine ze (upd _ t _) rfl ht λM o I=> ?_
    refine⟨(zq rfl),λl hl=> ?_⟩;refine ze (upd _ l _) rfl hl λY O X=> ?_
    have J:=d.trans (G.trans (o.trans O));exact fin l _ Y J X (.inr ⟨.cols Z (.first m r),_,rfl,rfl,t,_,_,rfl,O _ _ I,J _ _ k2,g,_,rfl,(o.trans O) _ _ D,L.same J⟩)
   ·refine !(zh (d _ _ dO) zF ⟨rfl,!?_⟩);refine ifF (noS hc) ?_;refine⟨(zq rfl),nil d ?_⟩;cases r <;> first | rfl | exact absurd rfl hw | exact absurd rfl hc
 | sort a r=>
  obtain⟨p,y,rfl,h1,i⟩:=hq;refine !(zh h1 zF (!⟨(zq rfl),λlp j=> ?_⟩));refine ze (upd _ lp _) rfl j λH1 d x1=> ?_
  refine⟨lp,!⟨.inl (SqL.of x1),rfl,rfl,!?_⟩⟩;refine ifF (by decide +kernel) ?_;refine !(zh (d _ _ h1) jr ?_);refine !⟨rfl,!?_⟩;refine ifF (noS (by decide +kernel)) ?_;refine ifF rfl ?_;refine !⟨rfl,!?_⟩;refine ifT (z38 _) ?_;obtain⟨R,x0,zs,rfl,n,kx⟩:=zf4 i;refine !(!(sl2 (d _ _ n) λt H2 G D=> ?_));have n12:=d.trans G;refine !(!⟨p,!⟨SqT.of (n12 _ _ h1),by show¬(HT.sIx 3 0 none=0/\HT.sIx 3 3 (some 2)=3);decide,λt2 cW=> ?_⟩⟩);refine ze (upd _ t2 _) rfl cW λM o I=> ?_
  have B:=n12.trans o;refine⟨t,t2,[.str (j9 r),x0],["sort",a],rfl,rfl,SqT.of (o _ _ D),SqT.of I,λv hv=> ?_,λtb N=>!?_⟩
  ·rcases wH.mp hv with rfl | hv
   ·exact .inl rfl
   ·rw [wz.mp hv];exact kx.elim .inl λ⟨p',zs,e,h⟩=> .inr ⟨p',zs,e,SqT.of (B _ _ h)⟩
  cases tb with
  | true=>
   refine ifT rfl ?_;have C:=N.mp rfl;have U:j9 r="sort":=by injection C with C;injection C
   have e2:x0= .str a:=by injection C with _ C;injection C
   obtain⟨b,r,rfl⟩:=z1f U;have e3:b=a:=by
    obtain⟨p',S,e,g,_⟩:=i;cases e;rw [n,e2]at g
    injection g with g;injection g with g;injection g with _ g;injection g with g;injection g with g;exact g.symm
   subst e3;refine !⟨(zq rfl),λl hl=> ?_⟩;refine ze (upd _ l _) rfl hl λY O X=> ?_
   have J:=B.trans O;exact fin l _ Y J X (.inr ⟨.sort b r,_,by show(if b=b then some (Qn.sort b r)else none)=_;rw [wY rfl],rfl,i.same J⟩)
  | false=>
   refine ifF rfl ?_;refine !⟨rfl,!?_⟩;refine ifF (noS (by decide +kernel)) ?_;refine ifF rfl ?_;refine !⟨rfl,!?_⟩;refine ifF (noS (by decide +kernel)) ?_;refine ifF rfl ?_;refine⟨(zq rfl),nil B ?_⟩;cases r with
   | sort b r=>
    show(if b=a then some (Qn.sort b r)else none)=none
    refine wU λz=> ?_
    obtain⟨p',S,e,g,_⟩:=i;cases e;rw [n]at g
    injection g with g;injection g with g;injection g with _ g;injection g with g _
    have:=N.mpr (by rw [g,z];rfl);cases this
   | _=>rfl
noncomputable def z1C:Qn->List Cond
 | .pick c q=>c :: z1C q
 | _=> []
noncomputable def z1A(th:Str->List Str)(q:Qn):Option Qn:=
 match q with
 | .pick c (.pick d r)=>if z3e c=true then ja th c (.pick d r)else if((z1C (.pick d r)).all (λe=> not (ja th e (beneath r)).isSome) && (ja th c (beneath r)).isSome)=true then some (.pick d (.pick c r))else none
 | q=>yc th q
theorem z3S(h:∀c d r,q≠ .pick c (.pick d r)):z1A th q=yc th q:=by
 unfold z1A;split
 ·exact absurd rfl (h _ _ _)
 ·rfl
theorem yw(h:¬j9 r="pick"):z1A th (.pick c r)=ja th c r:=by
 rw [z3S λc d s e=>h (by cases e;rfl)];exact z6f h
inductive spForms (K:W.Frag) (n:Nat) (vs:List V) (H:Hp) (Q:VK) (E:XK):Prop
 | mk:∀th tr q v tp,vs= [v,.ref tp]->n≠0->(n=1->∀c d r,q≠ .pick c (.pick d r))->TabOk th tr->jz th tr H tp->QAt H q v->wfQ th q->depth q<=160->(∀(l:Addr) (xs:List V) (H':Hp),zz H H'->H' l=some (.lst xs)->z7Q H' xs (z1A th q)->Q (.ref l) H')->spForms K n vs H Q E
theorem jw:FnScope ["_law_asked","_law_tables","_law_condition","_law_inner","_law_word","_law_one","_law_between","_law_beneath","_law_other"] ["_law_asked","_law_tables"] (zm z0t):=by walk_at "s"
theorem z3N(F:Fun K "_law_forms" "_law_forms" z0t f fd)(T:Txt K mg)(n:Nat)(G:Kn P w K mg base 1 "_law_folded" ["_law_asked"] (spFolded K))(C:Kn P w K mg base 161 "_law_parted" ["_law_condition","_law_inner","_law_tables"] (spParted K))(B:Kn P w K mg base (161 + n) "_law_forms" ["_law_asked","_law_tables"] (spForms K n)):FnOk P w K mg base CX0 (161 + n + 1) f fd ["_law_asked","_law_tables"] (spForms K (n + 1)):=by
 refine F.okB jw (λvs H Q E h=> ?_) (λvs H Q E h=> ?_)
 ·obtain⟨th,tr,q,v,tp,rfl,_⟩:=h
  rfl
 obtain⟨th,tr,q,v,tp,rfl,_,AG,TT,h4,hq,wf,hd,fin⟩:=h;have dO:∀{H1:Hp},zz H H1->z1A th q=none->∀l,H1 l=none->Q (.ref l) (upd H1 l (.lst [])):=λs e l hl=>fin l [] _ (s.trans (zJ hl _)) zl (.inl ⟨e,rfl⟩)
 intro ad A outer sh hr;have hu:=z1x hr;refine⟨_,(zc (zC (cmT z05 (ixT v0 zd) zi)
   (zg (zt (zW G hr.m (zf v0 zb))))
   zu)
  (zc (seT 2 jw (ixT v0 zd))
  (zc (seT 3 jw (ixT v0 zd))
  (zc (seT 4 jw (ixT v3 zd))
  (zc (zC (cmT zM (ixT v2 zd) zi)
   (zg (zt (zw (zH (zB (zo zi (zj (ixT v2 zd) (zH (zB (zo zi (zj (ixT v2 zd) (zf v3 zb)))) zb)))) zb))))
   zu)
  (zc (zC (yb yk v4 (zw (zo zi (zo zi zb))) (by with_unfolding_all rfl))
   (zg (zt (zw (zH (zB (zf v4 (zj (ixT v3 zd) (zH (zB (zo zi (zf v2 (zj (ixT v3 zd) zb)))) zb)))) zb))))
   zu)
  (zc (zC (cmT zM v4 zi)
   (zc (seT 5 jw (zB (zo zi (zf v2 (zj (ixT v3 zd) zb)))))
   (zg (zt (zw (zH (zB (zo zi (zf v5 (zH (zB (zo zi (zf v2 (zj (ixT v3 zd) zb)))) zb)))) zb)))))
   zu)
  (zc (zC (yb yk v4 (zw (zo zi (zo zi zb))) (by with_unfolding_all rfl))
   (zg (zt (zW C hr.m (zf v2 (zf v3 (zf v1 zb))))))
   zu)
  (zc (zC (cmT z05 v4 zi)
   (zg (zt (zw zb)))
   zu)
  (zc (seT 6 jw (zw zb))
  (zc (seT 7 jw v3)
  (zc (z7d (cmT zM (ixT (pv 7) zd) zi)
   (zc (jh (apP (pv 6) (zj (ixT (pv 7) zd) zb)))
   (zg (seT 7 jw (ixT (pv 7) zd)))))
  (zc (foR (jb (pv 6)) (gnM 8 jw)
   (zg (zC (cmT (z4w hu) (zW B hr.m (zH (zB (zo zi (zf (pv 8) (zf (pv 7) zb)))) (zf v1 zb))) (zw zb))
    (zg (zt (zw zb)))
    zu)))
  (zc (zC (cmT (z1M hu) (zW B hr.m (zH (zB (zo zi (zf v2 (zf (pv 7) zb)))) (zf v1 zb))) (zw zb))
   (zg (zt (zw zb)))
   zu)
  (zg (zt (zw (zH (zB (zo zi (zj (ixT v3 zd) (zH (zB (zo zi (zf v2 (zj (ixT v3 zd) zb)))) zb)))) zb)))))))))))))))))),?_⟩
 generalize hK0:K=K1
 revert K1
 refine jq (by walk_at "cl") ?_;rcases Classical.em (¬j9 q="pick")with hw | hw
 ·obtain⟨p,xs,rfl,h1⟩:=z2q hq;refine !(zh h1 zF ⟨rfl,!?_⟩);refine ifT (by show(not (decide _))=true;rw [noS hw];rfl) ?_;exact !⟨th,q,.ref p,rfl,hq,z32 hw,λl xs H' s' X U=>fin l xs H' s' X (by rw [z3S λc d r=>z32 hw c (.pick d r)];exact U)⟩
 obtain⟨c,r,rfl⟩:=yT (Classical.not_not.mp hw);obtain⟨p,x,y,rfl,h1,hc,hr⟩:=hq;obtain⟨pr,zs,rfl,k0⟩:=z2q hr;obtain⟨cp,ys,rfl,aI⟩:=kR hc;refine !(zh h1 zF ⟨rfl,!?_⟩);refine ifF (by decide +kernel) ?_;refine !(zh h1 j6 ?_);refine !(zh h1 jr ?_);refine !(zh k0 zF ?_);refine !(zh aI zF ⟨rfl,!?_⟩);rw [zV,z5t];by_cases han:z3e c=true
 ·refine ifT han ?_;cases c with
  | an a b=>
   obtain⟨A7,c1,c2,e0,dU,g1,g2⟩:=hc;cases e0;have fe:z1A th (.pick (.an a b) r)=some (.pick a (.pick b r)):=by cases r <;> rfl
   refine !(zh dU j6 (!(zh dU jr (!⟨(zq rfl),λt ht=> ?_⟩))));refine ze (upd _ t _) rfl ht λH2 I L=> ?_
   refine⟨(zq rfl),λu N=> ?_⟩;refine ze (upd _ u _) rfl N λH3 Z x3=> ?_
   refine⟨(zq rfl),λl hl=> ?_⟩;refine ze (upd _ l _) rfl hl λH4 J Y=> ?_
   have O:=I.trans (Z.trans J);exact fin l _ H4 O Y (.inr ⟨_,_,fe,rfl,u,_,_,rfl,J _ _ x3,g1.mono λb xs z=>O _ _ z,t,_,_,rfl,(Z.trans J) _ _ L,g2.mono λb xs z=>O _ _ z,hr.same O⟩)
  | _=>cases han
 refine ifF (Qi.mpr han) ?_;have eW:∀z,ja th c z=z6J th c z:=λz=>by cases c <;> first | rfl | exact absurd rfl han
 refine !⟨(zq rfl),λl1 eB=> ?_⟩;refine ze (upd _ l1 _) rfl eB λH1 M x1=> ?_
 refine⟨l1,!⟨.inl (SqL.of x1),rfl,rfl,!?_⟩⟩;cases r with
 | sort a s=>
  obtain⟨rC,y',e1,S,k3⟩:=hr;cases e1;refine ifT (by kernel_rfl) ?_;refine !(!(zh (M _ _ S) j6 (!(!(zh (M _ _ S) jr ⟨(zq rfl),λt ht=> ?_⟩)))));refine ze (upd _ t _) rfl ht λH2 I L=> ?_
  refine⟨(zq rfl),λu N=> ?_⟩;refine ze (upd _ u _) rfl N λH3 Z x3=> ?_
  refine⟨(zq rfl),λl hl=> ?_⟩;refine ze (upd _ l _) rfl hl λH4 J Y=> ?_
  have O:=M.trans (I.trans (Z.trans J));exact fin l _ H4 O Y (.inr ⟨_,_,(yw (qj (by kernel_rfl))).trans (eW _),rfl,u,_,rfl,J _ _ x3,t,_,_,rfl,(Z.trans J) _ _ L,hc.mono λb xs z=>O _ _ z,k3.same O⟩)
 | cols ns s=>
  obtain⟨rC,X,y',e1,S,k2,k3⟩:=hr;cases e1;refine ifT (by kernel_rfl) ?_;refine !(!(zh (M _ _ S) j6 (!(!(zh (M _ _ S) jr ⟨(zq rfl),λt ht=> ?_⟩)))));refine ze (upd _ t _) rfl ht λH2 I L=> ?_
  refine⟨(zq rfl),λu N=> ?_⟩;refine ze (upd _ u _) rfl N λH3 Z x3=> ?_
  refine⟨(zq rfl),λl hl=> ?_⟩;refine ze (upd _ l _) rfl hl λH4 J Y=> ?_
  have O:=M.trans (I.trans (Z.trans J));exact fin l _ H4 O Y (.inr ⟨_,_,(yw (qj (by kernel_rfl))).trans (eW _),rfl,u,_,_,rfl,J _ _ x3,O _ _ k2,t,_,_,rfl,(Z.trans J) _ _ L,hc.mono λb xs z=>O _ _ z,k3.same O⟩)
 | both a b=>
  obtain⟨rC,X,y',e1,S,k2,k3⟩:=hr;cases e1;refine ifF (by kernel_rfl) ?_;refine !⟨rfl,!?_⟩;refine ifT (z38 _) ?_;refine !(!(zh (M _ _ S) j6 ⟨(zq rfl),λt ht=> ?_⟩));refine ze (upd _ t _) rfl ht λH2 I L=> ?_
  refine !(!(!(zh ((M.trans I) _ _ S) jr ⟨(zq rfl),λt2 cW=> ?_⟩)));refine ze (upd _ t2 _) rfl cW λH3 Z x3=> ?_
  refine⟨(zq rfl),λu N=> ?_⟩;refine ze (upd _ u _) rfl N λH4 J Y=> ?_
  refine⟨(zq rfl),λl hl=> ?_⟩;refine ze (upd _ l _) rfl hl λH5 n5 x5=> ?_
  have aW:=M.trans (I.trans (Z.trans (J.trans n5)));exact fin l _ H5 aW x5 (.inr ⟨_,_,(yw (qj (by kernel_rfl))).trans (eW _),rfl,u,_,_,rfl,n5 _ _ Y,⟨t,_,_,rfl,(Z.trans (J.trans n5)) _ _ L,hc.mono λb xs z=>aW _ _ z,k2.same aW⟩,t2,_,_,rfl,(J.trans n5) _ _ x3,hc.mono λb xs z=>aW _ _ z,k3.same aW⟩)
 | pair a b=>
  refine ifF (by kernel_rfl) ?_;refine !⟨rfl,!?_⟩;refine ifF (noS (qj (by kernel_rfl))) ?_;refine !⟨(zq rfl),λl2 R=> ?_⟩;refine ze (upd _ l2 _) rfl R λH2 I L=> ?_
  refine⟨l2,!⟨.inl (SqL.of L),rfl,rfl,!?_⟩⟩;refine ifT (by kernel_rfl) ?_;have n12:=M.trans I;have dd:depth a<=160:=by simp only [depth]at hd;lia
  exact !(!(!⟨th,tr,c,.pair,true,a,b,_,_,tp,rfl,TT,h4.same n12,hc.mono λb xs z=>n12 _ _ z,wf.2.1,(.inl ⟨rfl,rfl⟩),wf.1,hr.same n12,wf.2.2.2.2.1,wf.2.2.1,dd,λl xs H' s' X U=>fin l xs H' (n12.trans s') X (by rw [yw (qj (by kernel_rfl)),eW];exact U)⟩))
 | join u w0 a b=>
  refine ifF (by kernel_rfl) ?_;refine !⟨rfl,!?_⟩;refine ifF (noS (qj (by kernel_rfl))) ?_;refine !⟨(zq rfl),λl2 R=> ?_⟩;refine ze (upd _ l2 _) rfl R λH2 I L=> ?_
  refine⟨l2,!⟨.inl (SqL.of L),rfl,rfl,!?_⟩⟩;refine ifT (by kernel_rfl) ?_;have n12:=M.trans I;have dd:depth a<=160:=by simp only [depth]at hd;lia
  exact !(!(!⟨th,tr,c,(.join u w0),false,a,b,_,_,tp,rfl,TT,h4.same n12,hc.mono λb xs z=>n12 _ _ z,wf.2.1,(.inr ⟨u,w0,rfl,rfl⟩),wf.1,hr.same n12,wf.2.2.2.2.2.2.1,wf.2.2.2.2.1,dd,λl xs H' s' X U=>fin l xs H' (n12.trans s') X (by rw [yw (qj (by kernel_rfl)),eW];exact U)⟩))
 | table m=>
  refine ifF (by kernel_rfl) ?_;refine !⟨rfl,!?_⟩;refine ifF (noS (qj (by kernel_rfl))) ?_;refine !⟨(zq rfl),λl2 R=> ?_⟩;refine ze (upd _ l2 _) rfl R λH2 I L=> ?_
  refine⟨l2,!⟨.inl (SqL.of L),rfl,rfl,!?_⟩⟩;refine ifF (by kernel_rfl) ?_;refine !⟨rfl,!?_⟩;refine ifT (by kernel_rfl) ?_;exact⟨(zq rfl),dO (M.trans I) ((yw (qj (by kernel_rfl))).trans (eW _))⟩
 | first m s=>
  refine ifF (by kernel_rfl) ?_;refine !⟨rfl,!?_⟩;refine ifF (noS (qj (by kernel_rfl))) ?_;refine !⟨(zq rfl),λl2 R=> ?_⟩;refine ze (upd _ l2 _) rfl R λH2 I L=> ?_
  refine⟨l2,!⟨.inl (SqL.of L),rfl,rfl,!?_⟩⟩;refine ifF (by kernel_rfl) ?_;refine !⟨rfl,!?_⟩;refine ifT (by kernel_rfl) ?_;exact⟨(zq rfl),dO (M.trans I) ((yw (qj (by kernel_rfl))).trans (eW _))⟩
 | group a b m o s=>
  refine ifF (by kernel_rfl) ?_;refine !⟨rfl,!?_⟩;refine ifF (noS (qj (by kernel_rfl))) ?_;refine !⟨(zq rfl),λl2 R=> ?_⟩;refine ze (upd _ l2 _) rfl R λH2 I L=> ?_
  refine⟨l2,!⟨.inl (SqL.of L),rfl,rfl,!?_⟩⟩;refine ifF (by kernel_rfl) ?_;refine !⟨rfl,!?_⟩;refine ifT (by kernel_rfl) ?_;exact⟨(zq rfl),dO (M.trans I) ((yw (qj (by kernel_rfl))).trans (eW _))⟩
 | pick d s=>
  refine ifF (by kernel_rfl) ?_;refine !⟨rfl,!?_⟩;refine ifF (noS (qj (by kernel_rfl))) ?_;refine !⟨(zq rfl),λl2 R=> ?_⟩;refine ze (upd _ l2 _) rfl R λH2 I L=> ?_
  refine⟨l2,!⟨.inl (SqL.of L),rfl,rfl,!?_⟩⟩;refine ifF (by kernel_rfl) ?_;refine !⟨rfl,!?_⟩;refine ifF (by kernel_rfl) ?_;have hn:n≠0:=λz=>AG (by lia) c d s rfl
  have n12:=M.trans I;refine⟨(zq rfl),λbl ag=> ?_⟩;have fb:H bl=none:=n12.free ag;have s0:zz H (upd H2 bl (.lst [])):=n12.trans (zJ ag _);refine !?_;have Eg:depth (.pick d s)<=159:=by simp only [depth]at hd ⊢;lia
  have AH:za th (beneath s)=za th s:=kT s;refine z0N (λm σ H'=>∃(r:Qn) (u:V) (es:List Cond) (bs:List V),σ= [some (.ref p),some (.ref tp),some (.ref cp),some (.ref pr),some (.str (j9 (.pick d s))),none,some (.ref bl),some u,none]/\zz H H'/\H' bl=some (.lst bs)/\QAt H r u/\bs.length=es.length/\(∀(i:Nat) e,es[i]? =some e->∃b,bs[i]? =some b/\zG H e b)/\(∀e∈es,e.ok (za th (beneath s))/\e.size<=20)/\
    z1C (.pick d s)=es ++ z1C r/\beneath r=beneath s/\wfQ th r/\bs.length + depth r<=160/\m=depth r) (depth (.pick d s))
   ⟨.pick d s,_,[],[],rfl,s0,zl,hr,rfl,by simp,by simp,rfl,rfl,wf.2.2,by simp only [Qo];lia,rfl⟩ ?_
  rintro m σ H' ⟨r,u,es,bs,rfl,sH,hb,hu,hlen,bN,hok,ec,eb,wr,rD,rfl⟩;obtain⟨pu,pf,rfl,AI⟩:=z2q hu;refine !(zh (sH _ _ AI) zF ⟨rfl,!?_⟩);by_cases dh:j9 r="pick"
  ·refine ifT (by rw [dh];exact z38 _) ?_;obtain⟨e,t,rfl⟩:=yT dh;obtain⟨p',X,y',e1,S,k2,k3⟩:=hu;cases e1;refine zcF λD hN _=> ?_
   refine !⟨.inl ⟨rfl,_,SqL.of hb⟩,!(zh (sH _ _ S) j6 ⟨bl,ex2 rfl rfl ⟨hb,zK (by lia),?_⟩⟩)⟩;have s3:zz H (upd H' bl (.lst (bs ++ [X]))):=sH.put fb;refine !(zh (s3 _ _ S) jr ?_);refine hN _ _ ⟨depth t,by show depth t < depth t + 1;lia,t,y',es ++ [e],bs ++ [X],rfl,s3,zl,k3,by simp [hlen],λi e' he=> ?_,λe' he=> ?_,by rw [ec,Qv];rfl,eb,wr.2.2,by rw [wg];show bs.length + 1 + depth t<=160;simp only [depth]at rD;lia,rfl⟩
   ·by_cases hi:i < es.length
    ·rw [qU hi]at he;obtain⟨b,cC,bQ⟩:=bN i e' he;exact⟨b,by rw [qU (by lia)];exact cC,bQ⟩
    ·have ic:=(wk.mp he).1;rw [wg,wJ]at ic;have lB:i=es.length:=by lia
     subst lB;rw [qS (wu _),w1n]at he;cases he;exact⟨X,by rw [<-hlen,qS (wu _),w1n];rfl,k2⟩
   ·rcases wA.mp he with he | he
    ·exact hok e' he
    ·rw [wz.mp he];have e3:za th t=za th (beneath s):=by rw [<-eb];exact(kT t).symm
     exact⟨by rw [<-e3];exact wr.1,wr.2.1⟩
  ·refine ifF (noS dh) ?_;have AJ:r=beneath s:=by rw [<-eb,z2y (z32 dh)]
   subst AJ;have cr:z1C (beneath s)= []:=by
    generalize beneath s=r at dh;cases r <;> first | rfl | exact absurd rfl dh
   rw [cr,Q3]at ec;have nj:z1A th (.pick c (.pick d s))=if((z1C (.pick d s)).all (λe=> not (ja th e (beneath s)).isSome) && (ja th c (beneath s)).isSome)=true then some (.pick d (.pick c s))else none:=by
    show(if z3e c=true then _ else _)=_
    rw [wU han]
   have Eh:1<=es.length:=by rw [<-ec];simp [z1C]
   have Ei:depth (beneath s)<=159:=by lia
   have uH:∀{e c' d' r'},Qn.pick e (beneath s)≠ .pick c' (.pick d' r'):=λz=>by
    injection z with _ z
    rw [z]at dh;exact dh rfl
   obtain⟨rC,dv,sv,e1,g1,g2,g3⟩:=hr;cases e1;refine !⟨bl,rfl,⟨_,SqL.of hb⟩,z6l (K:=K) (a:=bl) (xs:=bs) (λi σ H3=>∃o8:Option V,σ= [some (.ref p),some (.ref tp),some (.ref cp),some (.ref pr),some (.str (j9 (.pick d s))),none,some (.ref bl),some (.ref pu),o8]/\zz H H3/\H3 bl=some (.lst bs)/\∀(j:Nat) e,j < i->es[j]? =some e->(ja th e (beneath s)).isSome=false)
    ⟨none,rfl,sH,hb,λj e h=>absurd h (w1v _)⟩ (λi σ H3 _ ⟨_,_,_,b3,_⟩=>SqL.of b3) ?_ ?_⟩
   ·rintro i x σ H3 D hN hR hi ⟨o8,rfl,s3,b3,aK⟩;have gb:i < es.length:=by rw [<-hlen];exact(wk.mp hi).1
    have he:es[i]? =some es[i]:=we gb;generalize es[i]=e at he;obtain⟨b,cC,AK⟩:=bN i e he;rw [hi]at cC;cases cC;have uI:=hok e (qA he);refine !(!⟨(zq rfl),λt ht=> ?_⟩);refine ze (upd _ t _) rfl ht λH4 J Y=> ?_
    have s4:=s3.trans J;refine !⟨th,tr,.pick e (beneath s),_,tp,rfl,hn,λ_ _ _ _=>uH,TT,h4.same s4,⟨t,_,_,rfl,Y,AK.mono λb xs z=>s4 _ _ z,hu.same s4⟩,⟨uI.1,uI.2,wr⟩,by show depth (beneath s) + 1<=160;lia,λl xs H5 n5 x5 U=> ?_⟩;refine⟨(zq rfl),λep ae=> ?_⟩;refine ze (upd _ ep _) rfl ae λH6 n6 x6=> ?_
    have s6:=s4.trans (n5.trans n6);refine⟨l,ep,xs,rfl,rfl,SqL.of (n6 _ _ x5),SqL.of x6,!?_⟩;rw [yw dh]at U;rcases U with⟨fe,rfl⟩ | ⟨q',v',fe,rfl,_⟩
    ·refine ifF rfl ?_;refine hN _ _ ⟨_,rfl,s6,(J.trans (n5.trans n6)) _ _ b3,λj e' hj ac=> ?_⟩;by_cases i6:j < i
     ·exact aK j e' i6 ac
     ·have:j=i:=by lia
      subst this;rw [he]at ac;cases ac;rw [fe]
      rfl
    ·refine ifT rfl ?_;refine⟨(zq rfl),λl hl=>hR _ _ (dO s6 ?_ l hl)⟩;rw [nj,wU];intro z;rw [Q2,qQ]at z;have:=z.1 e (by rw [ec];exact qA he);rw [fe]at this;cases this
   ·rintro σ H3 ⟨o8,rfl,s3,b3,aK⟩;have dE:(z1C (.pick d s)).all (λe=> not (ja th e (beneath s)).isSome)=true:=by
     rw [ec,qQ];intro e he;obtain⟨j,hj⟩:=List.getElem?_of_mem he;rw [aK j e (by rw [hlen];exact(wk.mp hj).1) hj]
     rfl
    rw [dE,w15]at nj;refine !(!⟨(zq rfl),λt ht=> ?_⟩);refine ze (upd _ t _) rfl ht λH4 J Y=> ?_
    have s4:=s3.trans J;refine !⟨th,tr,.pick c (beneath s),_,tp,rfl,hn,λ_ _ _ _=>uH,TT,h4.same s4,⟨t,_,_,rfl,Y,hc.mono λb xs z=>s4 _ _ z,hu.same s4⟩,⟨by rw [AH];exact wf.1,wf.2.1,wr⟩,by show depth (beneath s) + 1<=160;lia,λl xs H5 n5 x5 U=> ?_⟩;refine⟨(zq rfl),λep ae=> ?_⟩;refine ze (upd _ ep _) rfl ae λH6 n6 x6=> ?_
    have s6:=s4.trans (n5.trans n6);refine⟨l,ep,xs,rfl,rfl,SqL.of (n6 _ _ x5),SqL.of x6,!?_⟩;rw [yw dh]at U;rcases U with⟨fe,rfl⟩ | ⟨q',v',fe,rfl,_⟩
    ·refine ifT rfl ?_;exact⟨(zq rfl),dO s6 (by rw [nj,fe];rfl)⟩
    ·refine ifF rfl ?_;have fq:z1A th (.pick c (.pick d s))=some (.pick d (.pick c s)):=by rw [nj,fe];rfl
     refine !(zh (s6 _ _ g1) j6 (!(!(zh (s6 _ _ g1) jr ⟨(zq rfl),λt1 ai=> ?_⟩))));refine ze (upd _ t1 _) rfl ai λH7 n7 x7=> ?_
     refine⟨(zq rfl),λt2 cW=> ?_⟩;refine ze (upd _ t2 _) rfl cW λH8 n8 x8=> ?_
     refine⟨(zq rfl),λl2 R=> ?_⟩;refine ze (upd _ l2 _) rfl R λH9 n9 x9=> ?_
     have s9:=s6.trans (n7.trans (n8.trans n9));exact fin l2 _ H9 s9 x9 (.inr ⟨_,_,fq,rfl,t2,_,_,rfl,n9 _ _ x8,g2.mono λb xs z=>s9 _ _ z,t1,_,_,rfl,(n8.trans n9) _ _ x7,hc.mono λb xs z=>s9 _ _ z,g3.same s9⟩)
theorem z2n(F:Fun K "_law_forms" "_law_forms" z0t f fd)(T:Txt K mg)(a:Kn P w K mg base 1 "_law_folded" ["_law_asked"] (spFolded K))(b:Kn P w K mg base 161 "_law_parted" ["_law_condition","_law_inner","_law_tables"] (spParted K))(c:∀k sp,FnOk P w K mg base CX0 k f fd ["_law_asked","_law_tables"] sp->Kn P w K mg base k "_law_forms" ["_law_asked","_law_tables"] sp):∀n,FnOk P w K mg base CX0 (161 + n) f fd ["_law_asked","_law_tables"] (spForms K n)
 | 0=>⟨λvs H Q E h=>by obtain⟨th,tr,q,v,tp,rfl,_⟩:=h;rfl,λA outer s H args us vs Q E hr i d e h=>by
  obtain⟨th,tr,q,v,tp,_,hz,_⟩:=h;exact absurd rfl hz⟩
 | n + 1=>z3N F T n a b (c (161 + n) _ (z2n F T a b c n))
noncomputable def aw:Cond->Nat
 | .an a b=>aw a + aw b
 | _=>1
theorem z94:∀c:Cond,1<=aw c/\2 * aw c<=c.size + 1
 | .an a b=>by
  have:=z94 a;have:=z94 b;simp only [aw,Cond.size]
  lia
 | .less _ _ | .same _ _ | .no _ | .or _ _=>by simp only [aw,Cond.size];lia
noncomputable def pd:Qn->Nat
 | .table _=>1
 | .pick c q=>aw c + pd q
 | .cols _ q | .first _ q | .group _ _ _ _ q | .sort _ q=>pd q + 1
 | .pair q r | .join _ _ q r | .both q r=>max (pd q) (pd r) + 1
theorem zb9(q:Qn):depth q<=pd q:=by
 induction q
 case' pick c q i=>have:=z94 c
 all_goals
  simp only [depth,pd]
  lia
theorem z8F(hm:∀x y,pd (mk x y)=max (pd x) (pd y) + 1)(e:jy th c mk b q r=some q'):pd q'<=aw c + (max (pd q) (pd r) + 1):=by
 rcases z1t e with _ | _ | ⟨x,y⟩
 ·rw [hm];simp only [pd];lia
 ·rw [hm];simp only [pd];lia
 ·unfold yB;split <;> simp only [pd] <;> lia
theorem zcj(e:yc th q=some q'):pd q'<=pd q:=by
 rcases z20 e with⟨c,r,_,f⟩ | ⟨c,d,r,_⟩ | ⟨n,m,r⟩ | ⟨n,l,r⟩ | ⟨l,m,r⟩ | ⟨a,r⟩
 ·rcases z1h f with⟨a,b,rfl,rfl⟩ | g
  ·have:aw (.an a b)=aw a + aw b:=rfl;simp only [pd,this]
   lia
  cases r with
  | pair r s=>exact z8F (mk:= .pair) (b:=true) (λ_ _=>rfl) g
  | join a b r s=>exact z8F (mk:= .join a b) (b:=false) (λ_ _=>rfl) g
  | sort | cols | both=>cases g;simp only [pd];lia
  | _=>cases g
 all_goals
  simp only [pd]
  lia
theorem zdY{p k:Qn}(a:(kids p)[i]? =some k)(h:pd k'<=pd k):pd (zI p i k')<=pd p:=by
 cases p <;> rcases i with _ | _ | i <;> cases a <;> simp only [zI,pd,w0S,w1o,Nat.one_ne_zero,w0B] <;> lia
theorem z8O:∀{c:List (Qn×Nat)} {q q':Qn},kF th c q->pd q'<=pd q->pd (plug c q')<=pd (plug c q)
 | [],_,_,_,e=>e
 | (p,i) :: c,q,q',h,e=>by
  have a:=zdY (z3m (k:=q) h.1) e;rw [set_set h.1]at a;exact z8O (c:=c) h.2.2 a
theorem Tns.pd{H:Hp}{us:List V}{p q:Qn}(h:Tns th H us p q):pd q<=pd p:=by
 induction h with
 | one q v h=>exact wu _
 | more us p q r v t o h a=>
  obtain⟨c,x,y,hc,rfl,rfl,e,_⟩:=o;exact wW (z8O hc (zcj e)) a
theorem zeB(h:okQ th q):Q12.pd q<=3 * depth q:=by
 induction q
 case' pick c q i=>have:=i h.2.2;have:=h.2.1;have:=z94 c
 case' cols i=>have:=i h.2.2.2
 case' first i=>have:=i h.2
 case' group i=>have:=i h.2.2.2.2.2
 case' sort i=>have:=i h.2
 case' pair q r i j=>have:=i h.2.1;have:=j h.2.2
 case' join q r i j=>have:=i h.2.2.2.1;have:=j h.2.2.2.2
 case' both q r i j=>have:=i h.2.1;have:=j h.2.2
 all_goals
  simp only [Q12.pd,depth]
  lia
theorem zcI(q:Qn):(post q).length<=depth q * zv q:=by
 induction q
 case' pick q i | cols q i | first q i | sort q i=>have:=yF q
 case' group q i=>have:=yF q
 case' pair q r i j | join q r i j | both q r i j=>have:=yF q;have:=yF r;have b:depth q * zv q<=max (depth q) (depth r) * zv q:=QL _ (Nat.le_max_left _ _);have a:depth r * zv r<=max (depth q) (depth r) * zv r:=QL _ (Nat.le_max_right _ _)
 all_goals
  simp only [post,depth,zv,wg,wJ,w07,Qw,w1i]
  lia
theorem zbj(h:okQ th q)(hd:depth q<=25)(hl:zv q<=12):wt q<=4000:=by
 have h1:=zeR h;have h2:=zcI q;have a:depth q * zv q<=25 * 12:=w0y hd hl
 lia
inductive Tz (H:Hp):V->Nat->Prop
 | s x:Tz H (.str x) 1
 | i n:Tz H (.int n) 1
 | t p xs (ns:List Nat):H p=some (.tup xs)->xs.length=ns.length->(∀(k:Nat) x n,xs[k]? =some x->ns[k]? =some n->Tz H x n)->Tz H (.ref p) (ns.sum + 1)
inductive Lk (H:Hp):V->V->Prop
 | s x:Lk H (.str x) (.str x)
 | i n:Lk H (.int n) (.int n)
 | t p p' xs ys:H p=some (.tup xs)->H p'=some (.tup ys)->xs.length=ys.length->(∀(k:Nat) x y,xs[k]? =some x->ys[k]? =some y->Lk H x y)->Lk H (.ref p) (.ref p')
theorem Tz.pos{v:V}{n:Nat}(h:Tz H v n):1<=n:=by cases h <;> lia
noncomputable abbrev It4:=Addr×V×V×Nat
noncomputable def sz4(its:List It4):Nat:=(its.map λit=>it.2.2.2).sum
theorem z26(a b:List It4):sz4 (a ++ b)=sz4 a + sz4 b:=by unfold sz4;rw [wK,List.sum_append]
theorem z43(x:It4):sz4 [x]=x.2.2.2:=by simp [sz4]
theorem z8Z:∀{its:List It4},(∀it∈its,1<=it.2.2.2)->its.length<=sz4 its
 | [],_=>wu _
 | a :: r,h=>by
  have h1:=z8Z (its:=r) λit m=>h it (wV _ m)
  have h2:=h a qF;have b:sz4 (a :: r)=a.2.2.2 + sz4 r:=by simp [sz4]
  rw [b,wP]
  lia
theorem z8Q:∀{ns:List Nat},(∀n∈ns,1<=n)->ns.length<=ns.sum
 | [],_=>wu _
 | a :: r,h=>by
  have h1:=z8Q (ns:=r) λn m=>h n (wV _ m)
  have h2:=h a qF;rw [Qa,wP]
  lia
def z6A(H0 H:Hp)(it:It4):Prop:=H it.1=some (.tup [it.2.1,it.2.2.1])/\(∃m,Tz H0 it.2.1 m)/\Tz H0 it.2.2.1 it.2.2.2
def z6A.mono(m:∀b xs,H b=some (.tup xs)->H' b=some (.tup xs)){it:It4}(h:z6A H0 H it):z6A H0 H' it:=⟨m _ _ h.1,h.2⟩
theorem zct{gs:List It4}{g:It4}{p:Prop}(h:p↔∀it∈gs ++ [g],Lk H it.2.1 it.2.2.1):p↔Lk H g.2.1 g.2.2.1/\∀it∈gs,Lk H it.2.1 it.2.2.1:=
 h.trans ⟨λz=>⟨z g (by simp),λit m=>z it (by simp [m])⟩,λz it m=>(wA.mp m).elim (z.2 it) λm=>by rw [wz.mp m];exact z.1⟩
theorem zeE{x:Str}{i:Int}(h:Lk H (.str x) (.int i)):False:=by cases h
theorem zeZ{x:Str}{i:Int}(h:Lk H (.int i) (.str x)):False:=by cases h
theorem zeT{x:Str}(h:Lk H (.ref p) (.str x)):False:=by cases h
theorem zfa{i:Int}(h:Lk H (.ref p) (.int i)):False:=by cases h
theorem zf6{x:Str}(h:Lk H (.str x) (.ref p)):False:=by cases h
theorem zep{i:Int}(h:Lk H (.int i) (.ref p)):False:=by cases h
theorem zet{x y:Str}(h:Lk H (.str x) (.str y)):x=y:=by cases h;rfl
theorem zey{x y:Int}(h:Lk H (.int x) (.int y)):x=y:=by cases h;rfl
theorem zd9{p':Addr}(hp:H p=some (.tup xs))(aa:H p'=some (.tup ys))(h:Lk H (.ref p) (.ref p')):xs.length=ys.length/\∀(k:Nat) a b,xs[k]? =some a->ys[k]? =some b->Lk H a b:=by
 cases h with
 | t _ _ f e h1 h2 d c=>
  rw [hp]at h1;rw [aa]at h2;cases h1;cases h2;exact⟨d,c⟩
theorem zeM:¬false=true:=by decide
inductive spLike (K:W.Frag) (vs:List V) (H:Hp) (Q:VK) (E:XK):Prop
 | mk:∀x y m n,vs= [x,y]->Tz H x m->Tz H y n->n<=900000->(∀b H',zz H H'->(b=true↔Lk H x y)->Q (.bl b) H')->spLike K vs H Q E
theorem z0n:FnScope ["_law_found","_law_due","_law_todo","_law_pair","_law_k"] ["_law_found","_law_due"] (zm z1U):=by walk_at "s"
set_option maxHeartbeats 1600000 in
theorem z6i(F:Fun K "_law_like" "_law_like" z1U f fd)(T:Txt K mg)(p:Kn P w K mg base 1 "_law_whole" ["_law_found"] spWhole):FnOk P w K mg base CX0 2 f fd ["_law_found","_law_due"] (spLike K):=by
 refine F.okB z0n (λvs H Q E h=> ?_) (λvs H Q E h=> ?_)
 ·obtain⟨x,y,m,n,rfl,_⟩:=h
  rfl
 obtain⟨x,y,m,n,rfl,hx,hy,hsz,q⟩:=h;intro ad A outer sh hr;have hu:=z1x hr;refine⟨_,(zc (seT 2 z0n (zw (zH (zB (zf v0 (zf v1 zb))) zb)))
  (zc (z7d (cmT (z4w hu) v2 (zw zb))
   (zc (seT 3 z0n (z3d qB QZ w00 z3p v2))
   (zg (zC (zY (zR zS rfl T.isinstance wO (zj (ixT v3 zd) (zf (jQ (v:= .ty "tuple") rfl T.tuple Qg rfl) zb))))
    (zc (zC (PW.pt (z2F (jT (zY (zR zS rfl T.isinstance wO (zj (ixT v3 zd) (zf (jQ (v:= .ty "tuple") rfl T.tuple Qg rfl) zb))))) (z1V (cmT z05 (leN T.len (zj (ixT v3 zd) zb)) (leN T.len (zj (ixT v3 zd) zb))))))
     (zg (zt jD))
     zu)
    (zg (foR (jW rfl T.range (zX (leN T.len (zj (ixT v3 zd) zb)) zb)) (gnM 4 z0n)
     (zg (jh (apP v2 (zH (zB (zj (ixT (ixT v3 zd) v4) (zj (ixT (ixT v3 zd) v4) zb))) zb)))))))
    (zg (zC (zY (zR zS rfl T.isinstance wO (zj (ixT v3 zd) (zf (jQ (v:= .ty "str") rfl T.str Q0 rfl) zb))))
     (zg (zC (PW.pt (z2F (jT (zY (zR zS rfl T.isinstance wO (zj (ixT v3 zd) (zf (jQ (v:= .ty "str") rfl T.str Q0 rfl) zb))))) (z1V (cmT z05 (ixT v3 zd) (ixT v3 zd)))))
      (zg (zt jD))
      zu))
     (zg (zC (PW.pt (z2F (jT (zY (zW p hr.m (zj (ixT v3 zd) zb)))) (z1V (cmT z05 (ixT v3 zd) (ixT v3 zd)))))
      (zg (zt jD))
      zu))))))))
  (zg (zt jD)))),?_⟩
 generalize hK0:K=K1
 revert K1
 refine jq (by walk_at "cl") ?_;refine !(!⟨(zq rfl),λpa eu=> ?_⟩);refine ze (upd _ pa _) rfl eu λH1 n1 x1=> ?_
 refine⟨(zq rfl),λtp aF=> ?_⟩;have uJ:H tp=none:=n1.free aF;refine ze (upd _ tp _) rfl aF λH2 n2 x2=> ?_
 have s2:=n1.trans n2;refine z0N (λm σ H'=>∃(its:List It4) (o3 M:Option V),σ= [some x,some y,some (.ref tp),o3,M]/\zz H H'/\H' tp=some (.lst (its.map λit=>V.ref it.1))/\(∀it∈its,z6A H H' it)/\sz4 its<=900000/\(Lk H x y↔∀it∈its,Lk H it.2.1 it.2.2.1)/\m=sz4 its) (sz4 [(pa,x,y,n)])
  ⟨[(pa,x,y,n)],none,none,rfl,s2,x2,λit m=>by rw [wz.mp m];exact⟨n2 _ _ x1,⟨_,hx⟩,hy⟩,by rw [z43];exact hsz,by simp,rfl⟩ ?_
 rintro m σ H3 ⟨its,o3,M,rfl,s3,h3,eN,hz,L,rfl⟩;refine !⟨(zq rfl),λep ac=> ?_⟩;refine ze (upd _ ep _) rfl ac λY n4 x4=> ?_
 have X:=n4 _ _ h3;have s4:=s3.trans n4;refine⟨tp,ep,_,rfl,rfl,SqL.of X,SqL.of x4,!?_⟩;by_cases ao:its= []
 ·subst ao;refine ifF (by rfl) ?_;exact q true Y s4 ⟨λ_=>L.mpr (List.forall_mem_nil _),λ_=>rfl⟩
 obtain⟨gs,⟨ga,I,J,N⟩,rfl⟩:=z42 ao;refine ifT (by simp) ?_;refine zcF λD hN hR=> ?_
 rw [z26,z43]at hz;replace L:=zct L;have e0:((gs ++ [(ga,I,J,N)]).map λit=>V.ref it.1)=(gs.map λit=>V.ref it.1) ++ [V.ref ga]:=by rw [wK];rfl
 rw [e0]at X;refine !⟨.inl ⟨rfl,_,SqL.of X⟩,tp,ex2 rfl rfl ⟨X,z2c _ _,?_⟩⟩;rw [w08];have tm:=z2N (o:= .lst (gs.map λit=>V.ref it.1)) X;have gB:∀it∈gs ++ [(ga,I,J,N)],z6A H (upd Y tp (.lst (gs.map λit=>V.ref it.1))) it:=λit mm=>((eN it mm).mono λb xs z=>n4 _ _ z).mono tm
 have j:zz H (upd Y tp (.lst (gs.map λit=>V.ref it.1))):=s4.put uJ;have h5:upd Y tp (.lst (gs.map λit=>V.ref it.1)) tp=some (.lst (gs.map λit=>V.ref it.1)):=zl;generalize upd Y tp (.lst (gs.map λit=>V.ref it.1))=H5 at gB j h5 ⊢;obtain⟨c,⟨gm,R⟩,nk⟩:z6A H H5 (ga,I,J,N):=gB _ (wG _ (wz.mpr rfl));replace c:H5 ga=some (.tup [I,J]):=c;replace R:Tz H I gm:=R;replace nk:Tz H J N:=nk;replace L:Lk H x y↔Lk H I J/\∀it∈gs,Lk H it.2.1 it.2.2.1:=L
 have g9:∀it∈gs,z6A H H5 it:=λit mm=>gB it (qc _ mm)
 have lz:sz4 (gs ++ [(ga,I,J,N)])=sz4 gs + N:=by rw [z26,z43]
 replace hz:sz4 gs + N<=900000:=hz;have AL:=nk.pos;have no:∀{G:Hp},zz H G->(Lk H I J->False)->D.rt (.bl false) G:=λs z=>hR _ _ (q false _ s ⟨λe=>absurd e zeM,λl=>(z (L.mp l).1).elim⟩)
 have on:Lk H I J->D.nx [some x,some y,some (V.ref tp),some (.ref ga),M] H5:=
  λl=>hN _ _ ⟨sz4 gs,by lia,gs,_,_,rfl,j,h5,g9,by lia,L.trans ⟨λz=>z.2,λz=>⟨l,z⟩⟩,rfl⟩
 cases nk with
 | s z=>
  refine !(zh c j6 ⟨_,_,_,!⟨TyOf.str z,z0U,!?_⟩⟩);refine ifF rfl ?_;refine !(zh c j6 ⟨_,_,_,!⟨TyOf.str z,jC,!?_⟩⟩);refine ifT rfl ?_;cases R with
  | s u=>
   refine !(zh c zF ⟨_,_,_,!⟨TyOf.str u,jC,!?_⟩⟩);refine ifF rfl ?_;refine !(zh c zF (!(zh c j6 ⟨rfl,!?_⟩)));rw [zV];by_cases e:u=z
   ·refine ifF (by rw [wS e];rfl) ?_;exact on (e ▸ .s _)
   ·refine ifT (by rw [wL e];rfl) ?_;exact no j λl=>e (zet l)
  | i u=>
   refine !(zh c zF ⟨_,_,_,!⟨TyOf.int u,z09,!?_⟩⟩);refine ifT rfl ?_;exact no j zeZ
  | t S xs ms d lx aP=>
   refine !(zh c zF ⟨_,_,_,!⟨TyOf.tup (j _ _ d),z73,!?_⟩⟩);refine ifT rfl ?_;exact no j zeT
 | i z=>
  refine !(zh c j6 ⟨_,_,_,!⟨TyOf.int z,z15,!?_⟩⟩);refine ifF rfl ?_;refine !(zh c j6 ⟨_,_,_,!⟨TyOf.int z,z09,!?_⟩⟩);refine ifF rfl ?_;cases R with
  | s u=>
   refine !(zh c zF ⟨_,_,rfl,.inr ⟨rfl,.inl ⟨_,rfl⟩⟩,!?_⟩);refine ifT rfl ?_;exact no j zeE
  | i u=>
   refine !(zh c zF ⟨_,_,rfl,.inl ⟨_,rfl,rfl⟩,!?_⟩);refine ifF rfl ?_;refine !(zh c zF (!(zh c j6 ⟨rfl,!?_⟩)));by_cases e:u=z
   ·refine ifF (by rw [e];simp) ?_;exact on (e ▸ .i _)
   ·refine ifT (by simpa using e) ?_;exact no j λl=>e (zey l)
  | t S xs ms d lx aP=>
   refine !(zh c zF ⟨_,_,rfl,.inr ⟨rfl,.inr ⟨_,_,rfl,j _ _ d⟩⟩,!?_⟩);refine ifT rfl ?_;exact no j zfa
 | t Z ys ns r ly ce=>
  refine !(zh c j6 ⟨_,_,_,!⟨TyOf.tup (j _ _ r),jC,!?_⟩⟩);refine ifT rfl ?_;cases R with
  | s u=>
   refine !(zh c zF ⟨_,_,_,!⟨TyOf.str u,z0U,!?_⟩⟩);refine ifT rfl ?_;exact no j zf6
  | i u=>
   refine !(zh c zF ⟨_,_,_,!⟨TyOf.int u,z15,!?_⟩⟩);refine ifT rfl ?_;exact no j zep
  | t S xs ms d lx aP=>
   refine !(zh c zF ⟨_,_,_,!⟨TyOf.tup (j _ _ d),jC,!?_⟩⟩);refine ifF rfl ?_;refine !(zh c zF ⟨S,!⟨.inr (SqT.of (j _ _ d)),!(zh c j6 ⟨Z,!⟨.inr (SqT.of (j _ _ r)),rfl,!?_⟩⟩)⟩⟩);by_cases el:xs.length=ys.length
   rotate_left
   ·refine ifT (by simp;lia) ?_;exact no j λl=>el (zd9 d r l).1
   refine ifF (by rw [el];simp) ?_;have Ej:ns.length<=ns.sum:=z8Q λn mm=>by
    obtain⟨k,C⟩:=List.getElem?_of_mem mm;have cg:k < ys.length:=by rw [ly];exact(wk.mp C).1
    exact(ce k _ n (we cg) C).pos
   have AM:∀i,(ns.take i).sum<=ns.sum:=λi=>by
    have:=Qj List.sum (List.take_append_drop i ns);rw [List.sum_append]at this
    lia
   have hL:Lk H (.ref S) (.ref Z)↔∀(k:Nat) a b,xs[k]? =some a->ys[k]? =some b->Lk H a b:=⟨λl=>(zd9 d r l).2,λl=> .t _ _ _ _ d r el l⟩
   refine !(zh c j6 ⟨Z,!⟨.inr (SqT.of (j _ _ r)),!⟨by lia,by lia,z49 (lo:=0) (n:=ys.length) (λi σ H'=>∃(B:List It4) (M:Option V),σ= [some x,some y,some (.ref tp),some (.ref ga),M]/\zz H H'/\H' tp=some (.lst ((gs ++ B).map λit=>V.ref it.1))/\(∀it∈gs ++ B,z6A H H' it)/\B.length=i/\sz4 B=(ns.take i).sum/\
    H' ga=some (.tup [.ref S,.ref Z])/\∀(k:Nat) it,B[k]? =some it->xs[k]? =some it.2.1/\ys[k]? =some it.2.2.1) ⟨[],M,rfl,j,by rw [Q3];exact h5,by rw [Q3];exact g9,rfl,rfl,c,λ_ _ z=>by cases z⟩ ?_ ?_⟩⟩⟩)
   ·rintro i σ H6 D2 hM _ hi ⟨B,M,rfl,O,h6,ff,lc,rE,rF,U⟩;have ix:i < xs.length:=by lia
    have ins:i < ns.length:=by lia
    have ex:=we ix;have ey:=we hi;have en:=we ins;have db:atI xs (0 + (i:Int))=some xs[i]:=by rw [QH];exact zN ex
    have rG:atI ys (0 + (i:Int))=some ys[i]:=by rw [QH];exact zN ey
    obtain⟨mi,AN⟩:∃mi,ms[i]? =some mi:=⟨_,we (by lia)⟩
    have wx:=aP i _ _ ex AN;have wy:=ce i _ _ ey en;refine !⟨.inl ⟨rfl,_,SqL.of h6⟩,!(zh rF zF (!(zh (O _ _ d) db (!(zh rF j6 (!(zh (O _ _ r) rG ⟨(zq rfl),λnp aA=> ?_⟩)))))))⟩;refine ze (upd _ np _) rfl aA λH7 n7 x7=> ?_
    have h7:=n7 _ _ h6;have uK:=z2N (o:= .lst (((gs ++ B).map λit=>V.ref it.1) ++ [V.ref np])) h7;have uL:∀b ws,H6 b=some (.tup ws)->upd H7 tp (.lst (((gs ++ B).map λit=>V.ref it.1) ++ [V.ref np])) b=some (.tup ws):=λb ws z=>uK b ws (n7 _ _ z)
    have Ek:=AM i;have l1:=z8Z (its:=gs ++ B) λit mm=>(ff it mm).2.2.pos
    rw [z26]at l1;refine⟨tp,ex2 rfl rfl ⟨h7,zK (by rw [w9];lia),?_⟩⟩;refine hM _ _ ⟨B ++ [(np,xs[i],ys[i],ns[i])],_,rfl,(O.trans n7).put uJ,by rw [zl];simp,λit mm=> ?_,by rw [wg,lc];rfl,?_,uL _ _ rF,λk it e=> ?_⟩
    ·rw [<-Qv]at mm;rcases wA.mp mm with mm | mm
     ·exact(ff it mm).mono uL
     ·rw [wz.mp mm];exact⟨uK _ _ x7,⟨_,wx⟩,wy⟩
    ·rw [z26,z43,rE,q5,en,List.sum_append];simp
    ·by_cases C:k < B.length
     ·rw [qU C]at e;exact U k it e
     ·have dg:=(wk.mp e).1;rw [wg,wJ]at dg;have cg:k=i:=by lia
      subst cg;rw [qS (by lia),lc,w1n]at e;cases e;exact⟨ex,ey⟩
   ·rintro σ H6 ⟨B,M,rfl,O,h6,ff,lc,rE,_,U⟩;rw [ly,qH]at rE;refine hN _ _ ⟨sz4 (gs ++ B),?_,gs ++ B,_,_,rfl,O,h6,ff,by rw [z26];lia,?_,rfl⟩
    ·rw [lz,z26]
     lia
    ·rw [L,hL];constructor
     ·rintro⟨z1,z2⟩ it mm;rcases wA.mp mm with mm | mm
      ·exact z2 it mm
      ·obtain⟨k,C⟩:=List.getElem?_of_mem mm;exact z1 k _ _ (U k it C).1 (U k it C).2
     ·intro z;refine⟨λk a b ha hb=> ?_,λit mm=>z it (qc _ mm)⟩;have C:k < B.length:=by rw [lc];exact(wk.mp hb).1
      have e:=we C;obtain⟨e1,e2⟩:=U k _ e;rw [ha]at e1;rw [hb]at e2;cases e1;cases e2;exact z _ (wG _ (wI C))
inductive Down (th:Str->List Str):Qn->Qn->Prop
 | here:∀q q',yc th q=some q'->(∀k∈kids q,nf th k)->Down th q q'
 | kid:∀p i k k',(kids p)[i]? =some k->Down th k k'->Down th p (zI p i k')
theorem Down.plug:∀{c:List (Qn×Nat)} {q q':Qn},kF th c q->Down th q q'->Down th (plug c q) (plug c q')
 | [],_,_,_,D=>D
 | (p,i) :: c,q,q',h,D=>by
  have E:=Down.kid (zI p i q) i q q' (z3m h.1) D;rw [set_set h.1]at E;exact Down.plug (c:=c) h.2.2 E
theorem One.down{w:Qn}(o:One th w w'):Down th w w':=by
 obtain⟨c,r,r',h,rfl,rfl,e,a⟩:=o;exact Down.plug h (.here _ _ e a)
theorem Down.dn(T:TabOk th tr)(D:Down th q q')(w:wfQ th q):Dn th q q':=by
 induction D with
 | here q q' e a=>exact z8R T w (λk m=>a k m k (z3s k)) e
 | kid p i k k' h _ b=>exact(b (z2U w k (qA h))).set h
theorem Down.eqv(T:TabOk th tr)(D:Down th q q')(w:wfQ th q):Eqv th tr q q':=by
 induction D with
 | here q q' e b=>exact z1W T w e
 | kid p i k k' h _ a=>exact z8n w h (a (z2U w k (qA h)))
theorem zax:nf th q->∀e∈z1C q,(ja th e (beneath q)).isSome=false:=by
 induction q with
 | pick c q a=>
  intro h e m;rcases wH.mp m with rfl | m
  ·exact z6I (r:=q) (h _ (z3s _))
  ·exact a (λr hr=>h r (by rw [kP];exact qc _ (List.mem_flatMap.mpr ⟨q,by simp [kids],hr⟩))) e m
 | _=>intro _ e m;cases m
theorem z9e(e:yc th q=some q')(b:∀k∈kids q,nf th k):z1A th q=some q':=by
 by_cases z:∃c d r,q= .pick c (.pick d r)
 ·obtain⟨c,d,r,rfl⟩:=z;have f:=zax (b (.pick d r) (by simp [kids]));have a:(if z3e c=true then ja th c (.pick d r)else if(ja th c (beneath r)).isSome=true then some (.pick d (.pick c r))else none)=some q':=e
  show(if z3e c=true then ja th c (.pick d r)else if((z1C (.pick d r)).all (λe=> not (ja th e (beneath r)).isSome) && (ja th c (beneath r)).isSome)=true then some (.pick d (.pick c r))else none)=some q'
  rw [show(z1C (.pick d r)).all (λe=> not (ja th e (beneath r)).isSome)=true from qQ.mpr λe m=>by rw [show(ja th e (beneath r)).isSome=false from f e m];rfl,w15];exact a
 ·rw [z3S λc d r e=>z ⟨c,d,r,e⟩];exact e
theorem lkn:∀(k:Nat) x y,([]:List V)[k]? =some x->([]:List V)[k]? =some y->Lk H x y:=λ_ _ _ e=>by simp at e
theorem lkc{a b:V}(h:Lk H a b)(r:∀(k:Nat) x y,xs[k]? =some x->ys[k]? =some y->Lk H x y):∀(k:Nat) x y,(a :: xs)[k]? =some x->(b :: ys)[k]? =some y->Lk H x y
 | 0,x,y,e,f=>by cases e;cases f;exact h
 | k + 1,x,y,e,f=>r k x y e f
theorem z8V(a:Side):Lk H a.v a.v:=by cases a with | nm s=>exact .s s | nu i=>exact .i i
theorem z8C(ns:List Str):∀(k:Nat) x y,(ns.map V.str)[k]? =some x->(ns.map V.str)[k]? =some y->Lk H x y:=λk x y e f=>by
 rw [e]at f;cases f;obtain⟨n,_,rfl⟩:=z7v e;exact .s n
theorem zbx:∀{c:Cond} {v v':V},zG H c v->zG H c v'->Lk H v v'
 | .less a b,_,_,h,g | .same a b,_,_,h,g=>by
  obtain⟨p,rfl,h⟩:=h;obtain⟨p',rfl,g⟩:=g;exact .t p p' _ _ h g rfl (lkc (.s _) (lkc (z8V a) (lkc (z8V b) lkn)))
 | .no c,_,_,h,g=>by
  obtain⟨p,x,rfl,h,h1⟩:=h;obtain⟨p',i,rfl,g,e⟩:=g;exact .t p p' _ _ h g rfl (lkc (.s _) (lkc (zbx h1 e) lkn))
 | .an c d,_,_,h,g | .or c d,_,_,h,g=>by
  obtain⟨p,x,y,rfl,h,h1,h2⟩:=h;obtain⟨p',i,j,rfl,g,e,f⟩:=g;exact .t p p' _ _ h g rfl (lkc (.s _) (lkc (zbx h1 e) (lkc (zbx h2 f) lkn)))
theorem z1H:∀{q:Qn} {v v':V},QAt H q v->QAt H q v'->Lk H v v'
 | .table n,_,_,h,g=>by
  obtain⟨p,rfl,h⟩:=h;obtain⟨p',rfl,g⟩:=g;exact .t p p' _ _ h g rfl (lkc (.s _) (lkc (.s _) lkn))
 | .pick c q,_,_,h,g=>by
  obtain⟨p,x,y,rfl,h,h1,h2⟩:=h;obtain⟨p',j,f,rfl,g,e,d⟩:=g;exact .t p p' _ _ h g rfl (lkc (.s _) (lkc (zbx h1 e) (lkc (z1H h2 d) lkn)))
 | .cols ns q,_,_,h,g=>by
  obtain⟨p,x,y,rfl,h,h1,h2⟩:=h;obtain⟨p',j,f,rfl,g,e,d⟩:=g;exact .t p p' _ _ h g rfl (lkc (.s _) (lkc (.t x j _ _ h1 e rfl (z8C ns)) (lkc (z1H h2 d) lkn)))
 | .pair q r,_,_,h,g | .both q r,_,_,h,g=>by
  obtain⟨p,x,y,rfl,h,h1,h2⟩:=h;obtain⟨p',j,f,rfl,g,e,d⟩:=g;exact .t p p' _ _ h g rfl (lkc (.s _) (lkc (z1H h1 e) (lkc (z1H h2 d) lkn)))
 | .join a b q r,_,_,h,g=>by
  obtain⟨p,x,y,rfl,h,h1,h2⟩:=h;obtain⟨p',j,f,rfl,g,e,d⟩:=g;exact .t p p' _ _ h g rfl (lkc (.s _) (lkc (.s _) (lkc (.s _) (lkc (z1H h1 e) (lkc (z1H h2 d) lkn)))))
 | .first n q,_,_,h,g=>by
  obtain⟨p,y,rfl,h,h2⟩:=h;obtain⟨p',f,rfl,g,d⟩:=g;exact .t p p' _ _ h g rfl (lkc (.s _) (lkc (.i _) (lkc (z1H h2 d) lkn)))
 | .sort a q,_,_,h,g=>by
  obtain⟨p,y,rfl,h,h2⟩:=h;obtain⟨p',f,rfl,g,d⟩:=g;exact .t p p' _ _ h g rfl (lkc (.s _) (lkc (.s _) (lkc (z1H h2 d) lkn)))
 | .group a b n s q,_,_,h,g=>by
  obtain⟨p,y,rfl,h,h2⟩:=h;obtain⟨p',f,rfl,g,d⟩:=g;exact .t p p' _ _ h g rfl (lkc (.s _) (lkc (.s _) (lkc (.s _) (lkc (.s _) (lkc (.s _) (lkc (z1H h2 d) lkn))))))
inductive Al (H:Hp):List V->List V->Prop
 | nil:Al H [] []
 | cons {x y:V} {xs ys:List V}:Lk H x y->Al H xs ys->Al H (x :: xs) (y :: ys)
theorem zeC:∀{ys:List V},xs.length=ys.length->(∀(k:Nat) x y,xs[k]? =some x->ys[k]? =some y->Lk H x y)->Al H xs ys:=by
 induction xs with
 | nil=>
  intro ys e _;cases ys with
  | nil=>exact .nil
  | cons=>simp at e
 | cons x xs d=>
  intro ys e h;cases ys with
  | nil=>simp at e
  | cons y ys=>exact .cons (h 0 x y rfl rfl) (d (Nat.succ.inj e) λk a b ha c=>h (k + 1) a b ha c)
theorem zch{x:V}(h:Al H (x :: xs) ys):∃y zs,ys=y :: zs/\Lk H x y/\Al H xs zs:=by cases h with | cons a r=>exact⟨_,_,rfl,a,r⟩
theorem zdD(h:Al H [] ys):ys= []:=by cases h;rfl
theorem zeS{x:Str}(h:Lk H (.str x) y):y= .str x:=by cases h;rfl
theorem zfo{x:Int}(h:Lk H (.int x) y):y= .int x:=by cases h;rfl
theorem zcB{xs:List V}:∀(ws:List Str) {ys:List V},Al H (ws.map V.str ++ xs) ys->∃zs,ys=ws.map V.str ++ zs/\Al H xs zs
 | [],ys,h=>⟨ys,rfl,h⟩
 | w :: ws,_,h=>by
  obtain⟨y,zs,rfl,l,r⟩:=zch h;obtain⟨us,e,r'⟩:=zcB ws r;exact⟨us,by rw [zeS l,e];rfl,r'⟩
theorem zbv{v:V}(hp:H p=some (.tup xs))(h:Lk H (.ref p) v):∃p' ys,v= .ref p'/\H p'=some (.tup ys)/\Al H xs ys:=by
 cases h with
 | t _ p' c ys h1 h2 b a=>
  rw [hp]at h1;cases h1;exact⟨p',ys,rfl,h2,zeC b a⟩
theorem zcU(h:Al H (ns.map V.str) ys):ys=ns.map V.str:=by
 obtain⟨zs,e,r⟩:=zcB (xs:= []) ns (by rw [Q3];exact h);rw [e,zdD r,Q3]
theorem zcS(ws:List Str){a v:V}(hp:H p=some (.tup (ws.map V.str ++ [a])))(h:Lk H (.ref p) v):∃p' a',v= .ref p'/\H p'=some (.tup (ws.map V.str ++ [a']))/\Lk H a a':=by
 obtain⟨p',ys,rfl,g,al⟩:=zbv hp h;obtain⟨zs,e,b⟩:=zcB ws al;obtain⟨a',f,d,l,c⟩:=zch b;rw [e,d,zdD c]at g;exact⟨p',a',rfl,g,l⟩
theorem z5a(ws:List Str){a b v:V}(hp:H p=some (.tup (ws.map V.str ++ [a,b])))(h:Lk H (.ref p) v):∃p' a' b',v= .ref p'/\H p'=some (.tup (ws.map V.str ++ [a',b']))/\Lk H a a'/\Lk H b b':=by
 obtain⟨p',ys,rfl,g,al⟩:=zbv hp h;obtain⟨zs,e,n⟩:=zcB ws al;obtain⟨a',q,i,l,d⟩:=zch n;obtain⟨b',o,j,c,f⟩:=zch d;rw [e,i,j,zdD f]at g;exact⟨p',a',b',rfl,g,l,c⟩
theorem z8E{a:Side}(h:Lk H a.v y):y=a.v:=by cases a <;> cases h <;> rfl
theorem z5q:∀{c:Cond} {v v':V},zG H c v->Lk H v v'->zG H c v'
 | .less a b,_,_,h,l=>by
  obtain⟨p,rfl,h⟩:=h;obtain⟨p',_,_,rfl,g,l1,l2⟩:=z5a ["less"] h l;rw [z8E l1,z8E l2]at g;exact⟨p',rfl,g⟩
 | .same a b,_,_,h,l=>by
  obtain⟨p,rfl,h⟩:=h;obtain⟨p',_,_,rfl,g,l1,l2⟩:=z5a ["same"] h l;rw [z8E l1,z8E l2]at g;exact⟨p',rfl,g⟩
 | .no c,_,_,h,l=>by
  obtain⟨p,x,rfl,h,h1⟩:=h;obtain⟨p',_,rfl,g,l1⟩:=zcS ["not"] h l;exact⟨p',_,rfl,g,z5q h1 l1⟩
 | .an c d,_,_,h,l=>by
  obtain⟨p,x,y,rfl,h,h1,h2⟩:=h;obtain⟨p',_,_,rfl,g,l1,l2⟩:=z5a ["and"] h l;exact⟨p',_,_,rfl,g,z5q h1 l1,z5q h2 l2⟩
 | .or c d,_,_,h,l=>by
  obtain⟨p,x,y,rfl,h,h1,h2⟩:=h;obtain⟨p',_,_,rfl,g,l1,l2⟩:=z5a ["or"] h l;exact⟨p',_,_,rfl,g,z5q h1 l1,z5q h2 l2⟩
theorem z1w:∀{q:Qn} {v v':V},QAt H q v->Lk H v v'->QAt H q v'
 | .table n,_,_,h,l=>by
  obtain⟨p,rfl,h⟩:=h;obtain⟨p',_,rfl,g,l1⟩:=zcS ["table"] h l;rw [zeS l1]at g;exact⟨p',rfl,g⟩
 | .pick c q,_,_,h,l=>by
  obtain⟨p,x,y,rfl,h,h1,h2⟩:=h;obtain⟨p',_,_,rfl,g,l1,l2⟩:=z5a ["pick"] h l;exact⟨p',_,_,rfl,g,z5q h1 l1,z1w h2 l2⟩
 | .cols ns q,_,_,h,l=>by
  obtain⟨p,x,y,rfl,h,h1,h2⟩:=h;obtain⟨p',_,_,rfl,g,l1,l2⟩:=z5a ["cols"] h l;obtain⟨e,zs,rfl,d,al⟩:=zbv h1 l1;rw [zcU al]at d;exact⟨p',e,_,rfl,g,d,z1w h2 l2⟩
 | .pair q r,_,_,h,l=>by
  obtain⟨p,x,y,rfl,h,h1,h2⟩:=h;obtain⟨p',_,_,rfl,g,l1,l2⟩:=z5a ["pair"] h l;exact⟨p',_,_,rfl,g,z1w h1 l1,z1w h2 l2⟩
 | .both q r,_,_,h,l=>by
  obtain⟨p,x,y,rfl,h,h1,h2⟩:=h;obtain⟨p',_,_,rfl,g,l1,l2⟩:=z5a ["both"] h l;exact⟨p',_,_,rfl,g,z1w h1 l1,z1w h2 l2⟩
 | .join a b q r,_,_,h,l=>by
  obtain⟨p,x,y,rfl,h,h1,h2⟩:=h;obtain⟨p',_,_,rfl,g,l1,l2⟩:=z5a ["join",a,b] h l;exact⟨p',_,_,rfl,g,z1w h1 l1,z1w h2 l2⟩
 | .first n q,_,_,h,l=>by
  obtain⟨p,y,rfl,h,h2⟩:=h;obtain⟨p',_,_,rfl,g,l1,l2⟩:=z5a ["first"] h l;rw [zfo l1]at g;exact⟨p',_,rfl,g,z1w h2 l2⟩
 | .sort a q,_,_,h,l=>by
  obtain⟨p,y,rfl,h,h2⟩:=h;obtain⟨p',_,rfl,g,l2⟩:=zcS ["sort",a] h l;exact⟨p',_,rfl,g,z1w h2 l2⟩
 | .group a b n s q,_,_,h,l=>by
  obtain⟨p,y,rfl,h,h2⟩:=h;obtain⟨p',_,rfl,g,l2⟩:=zcS ["group",a,b,n,s] h l;exact⟨p',_,rfl,g,z1w h2 l2⟩
theorem wdn:∀(k:Nat) x n,([]:List V)[k]? =some x->([]:List Nat)[k]? =some n->Tz H x n:=λ_ _ _ e=>by simp at e
theorem wdc{a:V}{m:Nat}{ns:List Nat}(h:Tz H a m)(r:∀(k:Nat) x n,xs[k]? =some x->ns[k]? =some n->Tz H x n):∀(k:Nat) x n,(a :: xs)[k]? =some x->(m :: ns)[k]? =some n->Tz H x n
 | 0,x,n,e,f=>by cases e;cases f;exact h
 | k + 1,x,n,e,f=>r k x n e f
theorem z91(a:Side):Tz H a.v 1:=by cases a with | nm s=>exact .s s | nu i=>exact .i i
theorem z8t:∀(ns:List Str),∀(k:Nat) x n,(ns.map V.str)[k]? =some x->(ns.map λ_=>1)[k]? =some n->Tz H x n
 | []=>by intro k x n e;cases e
 | a :: ns=>wdc (Tz.s a) (z8t ns)
theorem zcr:∀{c:Cond} {v:V},zG H c v->∃n,Tz H v n/\n<=4 * c.size
 | .less a b,_,h | .same a b,_,h=>by
  obtain⟨p,rfl,h⟩:=h;exact⟨_,.t p _ [1,1,1] h rfl (wdc (.s _) (wdc (z91 a) (wdc (z91 b) wdn))),by simp [Cond.size]⟩
 | .no c,_,h=>by
  obtain⟨p,x,rfl,h,h1⟩:=h;obtain⟨n,w,l⟩:=zcr h1;exact⟨_,.t p _ [1,n] h rfl (wdc (.s _) (wdc w wdn)),by simp only [Cond.size,Qa,QY];lia⟩
 | .an c d,_,h | .or c d,_,h=>by
  obtain⟨p,x,y,rfl,h,h1,h2⟩:=h;obtain⟨n,w,l⟩:=zcr h1;obtain⟨m,v,k⟩:=zcr h2;exact⟨_,.t p _ [1,n,m] h rfl (wdc (.s _) (wdc w (wdc v wdn))),by simp only [Cond.size,Qa,QY];lia⟩
theorem z2J(T:TabOk th tr):∀{q:Qn} {v:V},QAt H q v->wfQ th q->∃n,Tz H v n/\n<=200 * (post q).length
 | .table n,_,h,_=>by
  obtain⟨p,rfl,h⟩:=h;exact⟨_,.t p _ [1,1] h rfl (wdc (.s _) (wdc (.s _) wdn)),by simp [post]⟩
 | .pick c q,_,h,f=>by
  obtain⟨p,x,y,rfl,h,h1,h2⟩:=h;obtain⟨n,w,l⟩:=zcr h1;obtain⟨m,v,k⟩:=z2J T h2 f.2.2;have:=f.2.1;exact⟨_,.t p _ [1,n,m] h rfl (wdc (.s _) (wdc w (wdc v wdn))),by simp only [post,Qa,QY,wg,wJ];lia⟩
 | .cols ns q,_,h,f=>by
  obtain⟨p,x,y,rfl,h,h1,h2⟩:=h;obtain⟨m,v,k⟩:=z2J T h2 f.2.2;have d:=(jL T (q:= .cols ns q) f).2;have j:ns.length<=100:=d;have o:(ns.map λ_=>1).sum=ns.length:=by
   clear h1 f d j
   induction ns with
   | nil=>rfl
   | cons a r e=>rw [qK,Qa,e,wP];lia
  exact⟨_,.t p _ [1,(ns.map λ_=>1).sum + 1,m] h rfl (wdc (.s _) (wdc (.t x _ _ h1 (by rw [w9,w9]) (z8t ns)) (wdc v wdn))),by simp only [post,Qa,QY,wg,wJ];lia⟩
 | .pair q r,_,h,f=>by
  obtain⟨p,x,y,rfl,h,h1,h2⟩:=h;obtain⟨n,w,l⟩:=z2J T h1 f.2.2.1;obtain⟨m,v,k⟩:=z2J T h2 f.2.2.2;exact⟨_,.t p _ [1,n,m] h rfl (wdc (.s _) (wdc w (wdc v wdn))),by simp only [post,Qa,QY,wg,wJ];lia⟩
 | .both q r,_,h,f=>by
  obtain⟨p,x,y,rfl,h,h1,h2⟩:=h;obtain⟨n,w,l⟩:=z2J T h1 f.2.1;obtain⟨m,v,k⟩:=z2J T h2 f.2.2;exact⟨_,.t p _ [1,n,m] h rfl (wdc (.s _) (wdc w (wdc v wdn))),by simp only [post,Qa,QY,wg,wJ];lia⟩
 | .join a b q r,_,h,f=>by
  obtain⟨p,x,y,rfl,h,h1,h2⟩:=h;obtain⟨n,w,l⟩:=z2J T h1 f.2.2.2.2.1;obtain⟨m,v,k⟩:=z2J T h2 f.2.2.2.2.2;exact⟨_,.t p _ [1,1,1,n,m] h rfl (wdc (.s _) (wdc (.s _) (wdc (.s _) (wdc w (wdc v wdn))))),by simp only [post,Qa,QY,wg,wJ];lia⟩
 | .first a q,_,h,f=>by
  obtain⟨p,y,rfl,h,h2⟩:=h;obtain⟨m,v,k⟩:=z2J T h2 f.2;exact⟨_,.t p _ [1,1,m] h rfl (wdc (.s _) (wdc (.i _) (wdc v wdn))),by simp only [post,Qa,QY,wg,wJ];lia⟩
 | .sort a q,_,h,f=>by
  obtain⟨p,y,rfl,h,h2⟩:=h;obtain⟨m,v,k⟩:=z2J T h2 f.2;exact⟨_,.t p _ [1,1,m] h rfl (wdc (.s _) (wdc (.s _) (wdc v wdn))),by simp only [post,Qa,QY,wg,wJ];lia⟩
 | .group a b n s q,_,h,f=>by
  obtain⟨p,y,rfl,h,h2⟩:=h;obtain⟨m,v,k⟩:=z2J T h2 f.2.2.2;exact⟨_,.t p _ [1,1,1,1,1,m] h rfl (wdc (.s _) (wdc (.s _) (wdc (.s _) (wdc (.s _) (wdc (.s _) (wdc v wdn)))))),by simp only [post,Qa,QY,wg,wJ];lia⟩
theorem Tz.at{p:Addr}{xs:List V}{n:Nat}(h:Tz H (.ref p) n)(hp:H p=some (.tup xs)){k:Nat}{x:V}(e:xs[k]? =some x):∃m,Tz H x m/\m<=n:=by
 cases h with
 | t _ f ns h1 h2 c=>
  rw [hp]at h1;cases h1;have b:k < ns.length:=by rw [<-h2];exact(wk.mp e).1
  refine⟨ns[k],c k x _ e (we b),Nat.le_succ_of_le ?_⟩;have m:ns[k]∈ns:=wI b;generalize ns[k]=z at m;clear h2 c b
  induction ns with
  | nil=>cases m
  | cons a r d=>
   rw [Qa];rcases wH.mp m with rfl | m
   ·lia
   ·have:=d m;lia
noncomputable def z6H:Qn->List V
 | .table _=> []
 | .pick _ _ | .cols _ _ | .sort _ _ | .first _ _=> [.int 2]
 | .group _ _ _ _ _=> [.int 5]
 | .pair _ _ | .both _ _=> [.int 1,.int 2]
 | .join _ _ _ _=> [.int 3,.int 4]
def lh0{a b:V}(r:∀(k:Nat) x y,ys[k]? =some x->xs[k]? =some y->Lk H x y):∀(l:Nat) u v,l≠0->(a :: xs)[l]? =some u->(b :: ys)[l]? =some v->Lk H v u
 | 0,_,_,n,_,_=>absurd rfl n
 | l + 1,u,v,_,e,f=>r l v u f e
theorem lhs{a b:V}(h:Lk H b a)(r:∀(l:Nat) u v,l≠j->xs[l]? =some u->ys[l]? =some v->Lk H v u):∀(l:Nat) u v,l≠j + 1->(a :: xs)[l]? =some u->(b :: ys)[l]? =some v->Lk H v u
 | 0,_,_,_,e,f=>by cases e;cases f;exact h
 | l + 1,u,v,n,e,f=>r l u v (λz=>n (by rw [z])) e f
inductive Vw (H:Hp) (r k k':Qn) (p p':Addr):Prop
 | mk:∀(xs ys:List V) (j:Nat) x y,H p=some (.tup xs)->H p'=some (.tup ys)->xs.length=ys.length->xs.length<=6->xs[j]? =some x->ys[j]? =some y->QAt H k x->QAt H k' y->(∀l u v,l≠j->xs[l]? =some u->ys[l]? =some v->Lk H v u)->inV (.int (j:Int)) (z6H r)=true->Vw H r k k' p p'
theorem zbf{k:Qn}{p':Addr}(w:(kids r)[i]? =some k)(h:QAt H r (.ref p))(g:QAt H (zI r i k') (.ref p')):Vw H r k k' p p':=by
 cases r with
 | table n=>cases w
 | pick c q=>
  rcases i with _ | i <;> cases w
  obtain⟨_,x,y,e,h,h1,h2⟩:=h;obtain⟨_,u,l,f,g,o,j⟩:=g;cases e;cases f;exact .mk _ _ 2 y l h g rfl (qO rfl) rfl rfl h2 j (lhs (.s _) (lhs (zbx o h1) (lh0 lkn))) rfl
 | cols ns q=>
  rcases i with _ | i <;> cases w
  obtain⟨_,x,y,e,h,h1,h2⟩:=h;obtain⟨_,u,l,f,g,o,j⟩:=g;cases e;cases f;exact .mk _ _ 2 y l h g rfl (qO rfl) rfl rfl h2 j (lhs (.s _) (lhs (.t _ _ _ _ o h1 rfl (z8C ns)) (lh0 lkn))) rfl
 | first n q=>
  rcases i with _ | i <;> cases w
  obtain⟨_,y,e,h,h2⟩:=h;obtain⟨_,l,f,g,j⟩:=g;cases e;cases f;exact .mk _ _ 2 y l h g rfl (qO rfl) rfl rfl h2 j (lhs (.s _) (lhs (.i _) (lh0 lkn))) rfl
 | sort n q=>
  rcases i with _ | i <;> cases w
  obtain⟨_,y,e,h,h2⟩:=h;obtain⟨_,l,f,g,j⟩:=g;cases e;cases f;exact .mk _ _ 2 y l h g rfl (qO rfl) rfl rfl h2 j (lhs (.s _) (lhs (.s _) (lh0 lkn))) rfl
 | group a b n s q=>
  rcases i with _ | i <;> cases w
  obtain⟨_,y,e,h,h2⟩:=h;obtain⟨_,l,f,g,j⟩:=g;cases e;cases f;exact .mk _ _ 5 y l h g rfl (qO rfl) rfl rfl h2 j (lhs (.s _) (lhs (.s _) (lhs (.s _) (lhs (.s _) (lhs (.s _) (lh0 lkn)))))) rfl
 | pair a b=>
  rcases i with _ | _ | i <;> cases w
  ·obtain⟨_,x,y,e,h,h1,h2⟩:=h;obtain⟨_,u,l,f,g,o,j⟩:=g;cases e;cases f;exact .mk _ _ 1 x u h g rfl (qO rfl) rfl rfl h1 o (lhs (.s _) (lh0 (lkc (z1H j h2) lkn))) rfl
  ·obtain⟨_,x,y,e,h,h1,h2⟩:=h;obtain⟨_,u,l,f,g,o,j⟩:=g;cases e;cases f;exact .mk _ _ 2 y l h g rfl (qO rfl) rfl rfl h2 j (lhs (.s _) (lhs (z1H o h1) (lh0 lkn))) rfl
 | both a b=>
  rcases i with _ | _ | i <;> cases w
  ·obtain⟨_,x,y,e,h,h1,h2⟩:=h;obtain⟨_,u,l,f,g,o,j⟩:=g;cases e;cases f;exact .mk _ _ 1 x u h g rfl (qO rfl) rfl rfl h1 o (lhs (.s _) (lh0 (lkc (z1H j h2) lkn))) rfl
  ·obtain⟨_,x,y,e,h,h1,h2⟩:=h;obtain⟨_,u,l,f,g,o,j⟩:=g;cases e;cases f;exact .mk _ _ 2 y l h g rfl (qO rfl) rfl rfl h2 j (lhs (.s _) (lhs (z1H o h1) (lh0 lkn))) rfl
 | join c d a b=>
  rcases i with _ | _ | i <;> cases w
  ·obtain⟨_,x,y,e,h,h1,h2⟩:=h;obtain⟨_,u,l,f,g,o,j⟩:=g;cases e;cases f;exact .mk _ _ 3 x u h g rfl (qO rfl) rfl rfl h1 o (lhs (.s _) (lhs (.s _) (lhs (.s _) (lh0 (lkc (z1H j h2) lkn))))) rfl
  ·obtain⟨_,x,y,e,h,h1,h2⟩:=h;obtain⟨_,u,l,f,g,o,j⟩:=g;cases e;cases f;exact .mk _ _ 4 y l h g rfl (qO rfl) rfl rfl h2 j (lhs (.s _) (lhs (.s _) (lhs (.s _) (lhs (z1H o h1) (lh0 lkn))))) rfl
theorem Tz.same{v:V}{n:Nat}(h:Tz H v n)(e:zz H H'):Tz H' v n:=by
 induction h with
 | s x=>exact .s x
 | i n=>exact .i n
 | t p xs ns h1 h2 _ a=>exact .t p xs ns (e _ _ h1) h2 a
theorem Lk.same{v:V}(h:Lk H v u)(e:zz H H'):Lk H' v u:=by
 induction h with
 | s x=>exact .s x
 | i n=>exact .i n
 | t p p' xs ys h1 h2 b _ a=>exact .t p p' xs ys (e _ _ h1) (e _ _ h2) b a
theorem z9G(e:z1A th q=some q'):yc th q=some q':=by
 by_cases z:∃c d r,q= .pick c (.pick d r)
 ·obtain⟨c,d,r,rfl⟩:=z;have a:(if z3e c=true then ja th c (.pick d r)else if((z1C (.pick d r)).all (λe=> not (ja th e (beneath r)).isSome) && (ja th c (beneath r)).isSome)=true then some (.pick d (.pick c r))else none)=some q':=e
  show(if z3e c=true then ja th c (.pick d r)else if(ja th c (beneath r)).isSome=true then some (.pick d (.pick c r))else none)=some q'
  split at a
  ·next h=>rw [wY h];exact a
  ·next h=>
   rw [wU h];split at a
   ·next g=>rw [wY (Q2 _ _ ▸ g).2];exact a
   ·cases a
 ·rw [z3S λc d r e=>z ⟨c,d,r,e⟩]at e;exact e
theorem z9A{p k:Qn}(h:(kids p)[i]? =some k):depth k + 1<=depth p/\wt k<=wt p:=by
 have m:=qA h;clear h;cases p with
 | table=>cases m
 | pick | cols | first | sort | group=>rw [wz.mp m];exact⟨wu _,by simp only [wt];lia⟩
 | pair | both | join=>
  rcases wH.mp m with rfl | m
  ·exact⟨Nat.succ_le_succ (Nat.le_max_left _ _),by simp only [wt];lia⟩
  ·rw [wz.mp m];exact⟨Nat.succ_le_succ (Nat.le_max_right _ _),by simp only [wt];lia⟩
theorem z9c(r:Qn):(z6H r).all yY=true:=by cases r <;> rfl
def zcv(H:Hp)(d:Addr):Prop:=∃kvs,H d=some (.dK kvs)/\∀r:Qn,kids r≠ []->∃l,z1E kvs (Sum.inr (j9 r))=some (.ref l)/\H l=some (.lst (z6H r))
theorem zcv.same(h:zcv H d)(e:zz H H'):zcv H' d:=by
 obtain⟨kvs,h1,h2⟩:=h;refine⟨kvs,e _ _ h1,λr hr=> ?_⟩;obtain⟨l,g,x⟩:=h2 r hr;exact⟨l,g,e _ _ x⟩
inductive spTurnedL (K:W.Frag) (vs:List V) (H:Hp) (Q:VK) (E:XK):Prop
 | mk:∀th tr q q' v v' tp,vs= [v,v',.ref tp]->TabOk th tr->jz th tr H tp->QAt H q v->QAt H q' v'->Down th q q'->wfQ th q->depth q<=100->wt q<=4000->(∀H',zz H H'->Q (.bl true) H')->spTurnedL K vs H Q E
theorem jO:FnScope ["_law_one","_law_other","_law_tables","_law_spots","_law_depth","_law_form","_law_unlike"] ["_law_one","_law_other","_law_tables"] (zm kZ):=by walk_at "s"
set_option maxHeartbeats 1600000 in
theorem z4m(F:Fun K "_law_turned" "_law_turned" kZ f fd)(T:Txt K mg)(d:Kn P w K mg base 163 "_law_forms" ["_law_asked","_law_tables"] (spForms K 2))(c:Kn P w K mg base 2 "_law_like" ["_law_found","_law_due"] (spLike K)):FnOk P w K mg base CX0 164 f fd ["_law_one","_law_other","_law_tables"] (spTurnedL K):=by
 refine F.okB jO (λvs H Q E h=> ?_) (λvs H Q E h=> ?_)
 ·obtain⟨th,tr,q,q',v,v',tp,rfl,_⟩:=h
  rfl
 obtain⟨th,tr,q,q',v,v',tp,rfl,TT,h4,hq,cA,dn,wf,hd,hw,fin⟩:=h;intro ad A outer sh hr;have hu:=z1x hr;refine⟨_,(zc (seT 3 jO (zc0 (z1J zi (zw (zo zd zb)) (z1J zi (zw (zo zd zb)) (z1J zi (zw (zo zd zb)) (z1J zi (zw (zo zd zb)) (z1J zi (zw (zo zd zb)) zcN))))) rfl rfl nofun (by decide)))
  (zc (z41 hu v3 zi (zw (zo zd (zo zd zb))) rfl)
  (zc (z41 hu v3 zi (zw (zo zd (zo zd zb))) rfl)
  (zc (z41 hu v3 zi (zw (zo zd (zo zd zb))) rfl)
  (zc (foR (jW rfl T.range (zo zd zb)) (gnM 4 jO)
   (zc (foR (jb (zW d hr.m (zf v0 (zf v2 zb)))) (gnM 5 jO)
    (zg (zC (zY (zW c hr.m (zf v1 (zf v5 zb))))
     (zg (zt jD))
     zu)))
   (zc (zC (PW.pt (z2F (jT (zY (zR zS rfl T.isinstance wO (zf v1 (zf (jQ (v:= .ty "tuple") rfl T.tuple Qg rfl) zb))))) (z1V (cmT z05 (leN T.len (zf v1 zb)) (leN T.len (zf v0 zb))))))
    (zg (zt jD))
    zu)
   (zc (jG (j:=6) rfl jO.nd rfl (w02 rfl) (CompSc.of (sx:=zm kZ) (NX:= ["_law_one","_law_other","_law_tables","_law_spots","_law_depth","_law_form","_law_unlike"]) (fr:= ["_law_other","_law_one"]) (ix:= [1,0]) rfl rfl (by decide +kernel)) (jW rfl T.range (zX (leN T.len (zf v0 zb)) zb)) (λ_ _ _ _ _ _=>(z0s (jT (zY (zW c hr.m (zj (yD (kc (K:=K) rfl) v1 v0 (λ_ _=>rfl)) (zj (yD (kc (K:=K) rfl) v2 v0 (λ_ _=>rfl)) zb))))))) (λ_ _ _ _ _ _=>v0))
   (zc (zC (PW.pt (z2F (cmT z05 (leN T.len (zf (pv 6) zb)) zd) (z1V (yb yr (ixL (pv 6) zd) (zaq hu v3 (ixT v0 zd) (zw zb) ⟨rfl,rfl,rfl,rfl⟩) (by with_unfolding_all rfl)))))
    (zg (zt jD))
    zu)
   (zc (kf (i:=0) jO.nd rfl (QO rfl) (ixT v0 (ixL (pv 6) zd)))
   (zg (kf (i:=1) jO.nd rfl (QO rfl) (ixT v1 (ixL (pv 6) zd))))))))))
  (zg (zt jD))))))),?_⟩
 generalize hK0:K=K1
 revert K1
 refine jq (by walk_at "cl") ?_;refine λdp df=> ?_
 have nd:=zJ df (.dK []);have xd:upd H dp (.dK []) dp=some (.dK []):=zl;generalize upd H dp (.dK [])=G0 at nd xd ⊢;refine⟨(zq rfl),λl1 eB=> ?_⟩;refine ze (upd _ l1 _) rfl eB λG1 m1 y1=> ?_
 refine⟨(zq rfl),λl2 aD=> ?_⟩;refine ze (upd _ l2 _) rfl aD λG2 U y2=> ?_
 refine⟨(zq rfl),λl3 ao=> ?_⟩;refine ze (upd _ l3 _) rfl ao λG3 m3 y3=> ?_
 refine⟨(zq rfl),λl4 ag=> ?_⟩;refine ze (upd _ l4 _) rfl ag λG4 m4 y4=> ?_
 refine⟨(zq rfl),λl5 am=> ?_⟩;refine ze (upd _ l5 _) rfl am λZ m5 y5=> ?_
 have d5:=(m1.trans (U.trans (m3.trans (m4.trans m5)))) _ _ xd;have a1:=(U.trans (m3.trans (m4.trans m5))) _ _ y1;have a2:=(m3.trans (m4.trans m5)) _ _ y2;have s:=(m4.trans m5) _ _ y3;have t:=m5 _ _ y4;have s5:zz H Z:=nd.trans (m1.trans (U.trans (m3.trans (m4.trans m5))));refine⟨d5,[(.inr "pick",.ref l1),(.inr "cols",.ref l2),(.inr "sort",.ref l3),(.inr "first",.ref l4),(.inr "group",.ref l5)],rfl,qO rfl,?_⟩;generalize ek:z39 [] [(Sum.inr "pick",V.ref l1),(Sum.inr "cols",V.ref l2),(Sum.inr "sort",V.ref l3),(Sum.inr "first",V.ref l4),(Sum.inr "group",V.ref l5)]=kvs;have nl:∀{l:Addr} {xs:List V},Z l=some (.lst xs)->l≠dp:=λh z=>by rw [z,d5]at h;cases h
 have s6:zz H (upd Z dp (.dK kvs)):=s5.put df;have d6:upd Z dp (.dK kvs) dp=some (.dK kvs):=zl;have B:∀{l:Addr} {xs:List V},Z l=some (.lst xs)->upd Z dp (.dK kvs) l=some (.lst xs):=λh=>by rw [zn (nl h)];exact h
 replace a1:=B a1;replace a2:=B a2;replace s:=B s;replace t:=B t;have C:=B y5;clear B nl;generalize upd Z dp (.dK kvs)=G6 at s6 d6 a1 a2 s t C ⊢;have ln:kvs.length<=15:=by rw [<-ek];exact qO (by kernel_rfl)
 refine⟨(zq rfl),λl6 ae=> ?_⟩;refine ze (upd _ l6 _) rfl ae λF6 X y6=> ?_
 have e6:=X _ _ d6;refine !⟨dp,!⟨z6y.k (k:=Sum.inr "pair") e6 (zK (by lia)),?_⟩⟩;generalize ek6:putK kvs (Sum.inr "pair") (V.ref l6)=kvs6;have El:kvs6.length<=16:=by rw [<-ek6];exact wW (yV _ _ _) (by lia)
 have t6:zz H (upd F6 dp (.dK kvs6)):=(s6.trans X).put df;have D6:upd F6 dp (.dK kvs6) dp=some (.dK kvs6):=zl;have B:∀{l:Addr} {xs:List V},F6 l=some (.lst xs)->upd F6 dp (.dK kvs6) l=some (.lst xs):=λh=>by rw [zn (λz=>by rw [z,e6]at h;cases h)];exact h
 replace a1:=B (X _ _ a1);replace a2:=B (X _ _ a2);replace s:=B (X _ _ s);replace t:=B (X _ _ t);replace C:=B (X _ _ C);have N:=B y6;clear B;generalize upd F6 dp (.dK kvs6)=G7 at t6 D6 a1 a2 s t C N ⊢;refine⟨(zq rfl),λl7 ak=> ?_⟩;refine ze (upd _ l7 _) rfl ak λF7 O y7=> ?_
 have e7:=O _ _ D6;refine !⟨dp,!⟨z6y.k (k:=Sum.inr "both") e7 (zK (by lia)),?_⟩⟩;generalize ek7:putK kvs6 (Sum.inr "both") (V.ref l7)=kvs7;have Em:kvs7.length<=17:=by rw [<-ek7];exact wW (yV _ _ _) (by lia)
 have t7:zz H (upd F7 dp (.dK kvs7)):=(t6.trans O).put df;have D7:upd F7 dp (.dK kvs7) dp=some (.dK kvs7):=zl;have R:∀{l:Addr} {xs:List V},F7 l=some (.lst xs)->upd F7 dp (.dK kvs7) l=some (.lst xs):=λh=>by rw [zn (λz=>by rw [z,e7]at h;cases h)];exact h
 replace a1:=R (O _ _ a1);replace a2:=R (O _ _ a2);replace s:=R (O _ _ s);replace t:=R (O _ _ t);replace C:=R (O _ _ C);replace N:=R (O _ _ N);have a7:=R y7;clear R;generalize upd F7 dp (.dK kvs7)=G8 at t7 D7 a1 a2 s t C N a7 ⊢;refine⟨(zq rfl),λl8 ac=> ?_⟩;refine ze (upd _ l8 _) rfl ac λF8 M y8=> ?_
 have e8:=M _ _ D7;refine !⟨dp,!⟨z6y.k (k:=Sum.inr "join") e8 (zK (by lia)),?_⟩⟩;generalize ek8:putK kvs7 (Sum.inr "join") (V.ref l8)=kvs8;have En:kvs8.length<=18:=by rw [<-ek8];exact wW (yV _ _ _) (by lia)
 have t8:zz H (upd F8 dp (.dK kvs8)):=(t7.trans M).put df;have D8:upd F8 dp (.dK kvs8) dp=some (.dK kvs8):=zl;have J:∀{l:Addr} {xs:List V},F8 l=some (.lst xs)->upd F8 dp (.dK kvs8) l=some (.lst xs):=λh=>by rw [zn (λz=>by rw [z,e8]at h;cases h)];exact h
 replace a1:=J (M _ _ a1);replace a2:=J (M _ _ a2);replace s:=J (M _ _ s);replace t:=J (M _ _ t);replace C:=J (M _ _ C);replace N:=J (M _ _ N);replace a7:=J (M _ _ a7);have a8:=J y8;clear J;generalize upd F8 dp (.dK kvs8)=G9 at t8 D8 a1 a2 s t C N a7 a8 ⊢;have sp:zcv G9 dp:=by
  refine⟨_,D8,λr hr=> ?_⟩;have go:∀{l:Addr},z1E kvs8 (Sum.inr (j9 r))=some (V.ref l)->G9 l=some (.lst (z6H r))->∃l,z1E kvs8 (Sum.inr (j9 r))=some (V.ref l)/\G9 l=some (.lst (z6H r)):=λ{l} h g=>⟨l,h,g⟩
  rw [<-ek8,<-ek7,<-ek6,<-ek]at go ⊢;cases r with
  | table=>exact absurd rfl hr
  | pick=>exact go (l:=l1) (by kernel_rfl) a1
  | cols=>exact go (l:=l2) (by kernel_rfl) a2
  | sort=>exact go (l:=l3) (by kernel_rfl) s
  | first=>exact go (l:=l4) (by kernel_rfl) t
  | group=>exact go (l:=l5) (by kernel_rfl) C
  | pair=>exact go (l:=l6) (by kernel_rfl) N
  | both=>exact go (l:=l7) (by kernel_rfl) a7
  | join=>exact go (l:=l8) (by kernel_rfl) a8
 clear a1 a2 s t C N a7 a8 ek ek6 ek7 ek8 y1 y2 y3 y4 y5 y6 y7 y8 D8 D7 D6;have b9:∀{r:Qn} {u:V} {G:Hp},wt r<=4000->QAt G r u->wfQ th r->∃n,Tz G u n/\n<=900000:=λ{r u G} z h w=>by
  obtain⟨n,h1,h2⟩:=z2J TT h w;have:=z3Y r;exact⟨n,h1,by lia⟩
 refine⟨100,rfl,by decide,by decide,z49 (lo:=0) (n:=(100:Int).toNat) (λi σ H'=>∃(r r':Qn) (u u':V) (o4 S o6:Option V),σ= [some u,some u',some (.ref tp),some (.ref dp),o4,S,o6]/\zz G9 H'/\QAt H' r u/\QAt H' r' u'/\Down th r r'/\wfQ th r/\i + depth r<=100/\wt r<=4000)
  ⟨q,q',v,v',none,none,none,rfl,zz.refl _,hq.same t8,cA.same t8,dn,wf,by lia,hw⟩ ?_ ?_⟩
 rotate_left
 ·rintro σ H' ⟨r,r',u,u',o4,S,o6,rfl,sH,h1,h2,h3,h4,h5,h6⟩;have:1<=depth r:=by cases r <;> simp [depth]
  have:(100:Int).toNat=100:=rfl
  lia
 rintro i σ H1 D hN hR hi ⟨r,r',u,u',o4,S,o6,rfl,s1,eP,fg,rJ,gY,pE,rK⟩;have Dr:=rJ.dn TT gY;have lU:wfQ th r':=(rJ.eqv TT gY).wf;have lV:wt r'<=4000:=wW Dr.wt rK;refine !(!⟨th,tr,r,u,tp,rfl,by decide,λz=>absurd z (by decide),TT,h4.same (t8.trans s1),eP,gY,by lia,λfl xs H2 n2 x2 fo=> ?_⟩);refine⟨fl,rfl,⟨_,SqL.of x2⟩,z6l (K:=K) (a:=fl) (xs:=xs) (λj σ H3=>∃S:Option V,σ= [some u,some u',some (.ref tp),some (.ref dp),some (.int (0 + (i:Int))),S,o6]/\zz H2 H3/\(1<=j->z1A th r≠some r')) ⟨S,rfl,zz.refl _,λz=>absurd z (by decide)⟩ (λj σ H3 _ ⟨_,_,I,_⟩=>SqL.of (I _ _ x2)) ?_ ?_⟩
 ·rintro j x σ H3 D2 hM hS hj ⟨S,rfl,I,_⟩;rcases fo with⟨_,rfl⟩ | ⟨qf,vf,ef,rfl,hf⟩
  ·cases hj
  have ej:x=vf:=by
   rcases j with _ | j
   ·exact(Option.some.inj hj).symm
   ·cases hj
  subst ej;have tf:=z9G ef;obtain⟨m1,w1,_⟩:=b9 lV (fg.same (n2.trans I)) lU;obtain⟨U,w2,l2⟩:=b9 (wW (z68 tf).2 rK) (hf.same I) (z1W TT gY tf).wf;refine !(!⟨u',x,m1,U,rfl,w1,w2,l2,λb H4 n4 ib=>!?_⟩);cases b with
  | true=>
   refine ifT rfl ?_;exact hS _ _ (hR _ _ (fin H4 (t8.trans (s1.trans (n2.trans (I.trans n4))))))
  | false=>
   refine ifF rfl ?_;refine hM _ _ ⟨_,rfl,I.trans n4,λ_ z=> ?_⟩;rw [ef]at z;cases z;exact absurd (ib.mpr (z1H (fg.same (n2.trans I)) (hf.same I))) (by decide)
 rintro σ H3 ⟨S,rfl,I,AO⟩;have AQ:z1A th r≠some r':=by
  rcases fo with⟨ef,_⟩ | ⟨_,_,_,rfl,_⟩
  ·rw [ef];exact nofun
  ·exact AO (wu _)
 have rL:=n2.trans I;cases rJ with
 | here _ _ e Y=>exact absurd (z9e e Y) AQ
 | kid _ ki k k' Y dk=>
  obtain⟨p,_,rfl,_⟩:=z2q eP;obtain⟨p',_,rfl,_⟩:=z2q fg;have rM:=eP.same rL;have lW:=fg.same rL;obtain⟨xs,ys,j,x,y,hp,aa,ll,Eo,ex,ey,qx,qy,lk,sj⟩:=zbf Y rM lW;have uM:wfQ th k:=z2U gY k (qA Y);have AR:k≠k':=λz=>by
   have:=(dk.dn TT uM).nu;rw [z]at this;exact QC _ this
  obtain⟨_,zs,e0,hz⟩:=z2q rM;cases e0;have ez:=hz;rw [hp]at ez;cases ez;refine !⟨_,_,_,!⟨TyOf.tup aa,jC,!?_⟩⟩;refine ifF rfl ?_;refine !⟨p',!⟨.inr (SqT.of aa),!⟨p,!⟨.inr (SqT.of hp),rfl,!?_⟩⟩⟩⟩;refine ifF (by rw [ll];simp) ?_;generalize aP:V.str (j9 r) :: zs=xs at *;refine !⟨p,!⟨.inr (SqT.of hp),_,rfl,by lia,by lia,?_⟩⟩;refine z4j (lo:=0) (n:=(xs.length:Int).toNat) (λl ws G=>zz H3 G/\ws=if j < l then [V.int (j:Int)]else []) ⟨zz.refl _,by rw [wU (w1v _)]⟩ ?_ ?_ ?_
  ·rintro l ws G hl ⟨o,rfl⟩;exact zK (by split <;> simp)
  ·rintro l ws G hl ⟨o,rfl⟩;have AS:l < xs.length:=by lia
   have AT:l < ys.length:=by lia
   have ea:=we AS;have eb:=we AT;generalize xs[l]=a at ea;generalize ys[l]=b at eb;have db:atI xs (0 + (l:Int))=some a:=by rw [QH];exact zN ea
   have rG:atI ys (0 + (l:Int))=some b:=by rw [QH];exact zN eb
   obtain⟨n1,w1,z1⟩:=b9 rK (rM.same o) gY;obtain⟨Ep,w2,z2⟩:=b9 lV (lW.same o) lU;obtain⟨m1,wa,ya⟩:=w1.at (o _ _ hp) ea;obtain⟨U,wb,_⟩:=w2.at (o _ _ aa) eb;refine !(!(zh (o _ _ aa) rG (!(!(zh (o _ _ hp) db ⟨b,a,U,m1,rfl,wb,wa,by lia,λbb G2 L ib=>!?_⟩)))));by_cases hlj:l=j
   ·subst hlj;rw [ex]at ea;rw [ey]at eb;cases ea;cases eb;cases bb with
    | true=>exact absurd (zdb (z1w (qy.same o) (ib.mp rfl)) (qx.same o)).symm AR
    | false=>
     refine ifT rfl ?_;refine !⟨o.trans L,?_⟩;rw [wU (QC _),wY (w05 _),QH]
     rfl
   ·have hb:=ib.mpr ((lk l a b hlj ea eb).same o);subst hb;refine ifF rfl ?_;refine⟨o.trans L,?_⟩;by_cases h:j < l
    ·rw [wY h,wY (by lia)]
    ·rw [wU h,wU (by lia)]
  ·rintro ws G ⟨o,rfl⟩ up lR;have hj:j < (xs.length:Int).toNat:=(wk.mp ex).1;rw [wY hj]at *;refine ze (upd _ up _) rfl lR λaq g1 x1=> ?_
   have uN:=s1.trans (rL.trans (o.trans g1));obtain⟨AU,uO,AV⟩:=sp.same uN;obtain⟨sl,ev,AW⟩:=AV r (λz=>by rw [z]at Y;cases Y);have uP:=o.trans g1;have rN:atI xs 0=some (V.str (j9 r)):=by rw [<-aP];exact zF
   refine !⟨up,!⟨.inl (SqL.of x1),rfl,!?_⟩⟩;refine ifF (by rfl) ?_;refine !(zx x1 zF (!⟨dp,rfl,.inl ⟨_,Rd.of uO⟩,!(zh (uP _ _ hp) rN ⟨(zq rfl),λep ai=> ?_⟩)⟩));refine ze (upd _ ep _) rfl ai λap L rB=> ?_
   refine⟨_,za3.k (k:=Sum.inr (j9 r)) (L _ _ uO),?_⟩;rw [ev];refine⟨sl,!⟨.inl (SqL.of (L _ _ AW)),rfl,z9c r,!?_⟩⟩;refine ifF (by show(not (inV _ _))=false;rw [sj];rfl) ?_;have nv:=uP.trans L;have AX:atI xs (j:Int)=some x:=zN ex;have AY:atI ys (j:Int)=some y:=zN ey;refine !(!(zx (L _ _ x1) zF (zh (nv _ _ hp) AX ?_)));refine !(!(zx (L _ _ x1) zF (zh (nv _ _ aa) AY ?_)));have kd:=z9A Y;exact hN _ _ ⟨k,k',x,y,_,_,_,rfl,uN.trans L,qx.same nv,qy.same nv,dk,uM,by lia,by lia⟩
theorem zdu(T:TabOk th tr):∀n∈tabs,∀s∈th n,s∈z0e 26 3:=by
 have hl:∀s∈jj,s∈z0e 26 3:=by decide +kernel
 have ht:∀s∈th "t",s∈z0e 26 3:=by
  obtain⟨m,_,_,e⟩:=T.t;rw [e];exact λs hs=>hl s (QK hs)
 intro n hn;have a:n="t"\/n="tuvtuvtuvw"\/n="tuvtuvtuvx":=by
  unfold tabs at hn
  simpa using hn
 rcases a with rfl | rfl | rfl
 ·exact ht
 ·rw [T.w];decide +kernel
 ·rw [T.x];decide +kernel
theorem z8q:∀g∈signs,(("n":Str) ++ g)∈z0e 26 3/\(("s":Str) ++ g)∈z0e 26 3:=by decide +kernel
theorem yO(T:TabOk th tr):∀{q:Qn},okQ th q->∀s∈za th q,s∈z0e 26 3
 | .table n,h=>zdu T n h
 | .pick _ q,h=>yO T (q:=q) h.2.2
 | .cols ns q,h=>λs hs=>yO T (q:=q) h.2.2.2 s (h.2.2.1 s hs)
 | .pair q r,h=>λs hs=>by
  rcases wA.mp hs with hs | hs
  ·exact yO T (q:=q) h.2.1 s hs
  ·exact yO T (q:=r) h.2.2 s hs
 | .join a b q r,h=>λs hs=>by
  rcases wA.mp hs with hs | hs
  ·exact yO T (q:=q) h.2.2.2.1 s hs
  ·exact yO T (q:=r) h.2.2.2.2 s hs
 | .both q r,h=>yO T (q:=q) h.2.1
 | .first _ q,h=>yO T (q:=q) h.2
 | .group a b n s q,h=>λx e=>by
  obtain⟨ha,_,⟨g,d,rfl,rfl⟩,_,_,hq⟩:=h;have c:x∈ [a,("n":Str) ++ g,("s":Str) ++ g]:=e;simp only [wH,qz,QD]at c;rcases c with rfl | rfl | rfl
  ·exact yO T (q:=q) hq _ ha
  ·exact(z8q g d).1
  ·exact(z8q g d).2
 | .sort _ q,h=>yO T (q:=q) h.2
theorem zbn:∀i∈z0k,0<=i:=by decide +kernel
theorem zcH:∀g∈signs,(("n":Str) ++ g)≠(("s":Str) ++ g):=by decide +kernel
def z7b(T:TabOk th tr)(hq:okQ th q)(hr:okQ th r)(nd:∀n∈za th q,n∉za th r):(za th q ++ za th r).length<=100:=
 wW (yZ (QS.mpr ⟨(jA T hq).2,(jA T hr).2,λa ha b c e=>nd a ha (e ▸ c)⟩) λx d=>(wA.mp d).elim (yO T hq x) (yO T hr x)) z4N
theorem z1y(T:TabOk th tr):∀{q:Qn},okQ th q->wfQ th q
 | .table n,h=>h
 | .pick c q,h=>⟨h.1.ok,wW h.2.1 (by decide),z1y T h.2.2⟩
 | .cols ns q,h=>⟨h.2.1,h.2.2.1,z1y T h.2.2.2⟩
 | .pair q r,h=>⟨h.1,z7b T h.2.1 h.2.2 h.1,z1y T h.2.1,z1y T h.2.2⟩
 | .join a b q r,h=>⟨h.1,h.2.1,h.2.2.1,z7b T h.2.2.2.1 h.2.2.2.2 h.2.2.1,z1y T h.2.2.2.1,z1y T h.2.2.2.2⟩
 | .both q r,h=>⟨h.1,z1y T h.2.1,z1y T h.2.2⟩
 | .first n q,h=>⟨zbn n h.1,z1y T h.2⟩
 | .group a b n s q,h=>by
  obtain⟨ha,d,⟨g,e,rfl,rfl⟩,h1,h2,hq⟩:=h;refine⟨ha,d,?_,z1y T hq⟩;have:=zcH g e;simp [h1,h2,this]
 | .sort a q,h=>⟨h.1,z1y T h.2⟩
theorem TabAt.ev{v:V}(h:TabAt th tr H v n)(k:Ev th C H H'):TabAt th tr H' v n:=by
 obtain⟨p,hp,rp,rs,rfl,h1,c,a,b⟩:=h;exact⟨p,hp,rp,rs,rfl,k.tup h1,k.lst c,⟨k.lst a.1,λr m=>⟨(a.2 r m).1,k.lst (a.2 r m).2⟩⟩,b⟩
theorem jz.ev(h:jz th tr H p)(k:Ev th C H H'):jz th tr H' p:=by
 obtain⟨v0,v1,v2,h0,a,b,c⟩:=h;exact⟨v0,v1,v2,k.lst h0,a.ev k,b.ev k,c.ev k⟩
theorem Tns.first{p:Qn}(h:Tns th H us p q):∃v,us[0]? =some v/\QAt H p v:=by
 induction h with
 | one q v h=>exact⟨v,rfl,h⟩
 | more us p q r v t o h a=>
  obtain⟨u,e,b⟩:=a;exact⟨u,by rw [qU (wk.mp e).1];exact e,b⟩
theorem Tns.at(T:TabOk th tr){us:List V}{p q:Qn}(h:Tns th H us p q)(wf:wfQ th p):∀k,k + 1 < us.length->∃a b x y,us[k]? =some x/\us[k + 1]? =some y/\QAt H a x/\QAt H b y/\Down th a b/\wfQ th a/\wt a<=wt p/\Q12.pd a<=Q12.pd p:=by
 induction h with
 | one q v h=>exact λk c=>absurd c (by simp)
 | more us p q r v t o h d=>
  intro k c;rw [wg,wJ]at c;by_cases hl:k + 1 < us.length
  ·obtain⟨a,b,x,y,h1,h2,j⟩:=d wf k hl;exact⟨a,b,x,y,by rw [qU (by lia)];exact h1,by rw [qU hl];exact h2,j⟩
  ·obtain⟨e,_,w⟩:=t.eqv T wf;have tp:=t.pd;obtain⟨vs,u,rfl,f⟩:=t.last;rw [wg,wJ]at c hl;have i:k=vs.length:=by lia
   subst i;exact⟨q,r,u,v,by rw [Qv,qS (wu _),w1n];rfl,by rw [qS (by simp),wg,wJ,w1n];rfl,f,h,o.down,e.wf,w,tp⟩
inductive spLaw (K:W.Frag) (T4:Addr) (vs:List V) (H:Hp) (Q:VK) (E:XK):Prop
 | mk:∀a (ns:List Int),vs= [.ref a]->SqL K H a (ns.map V.int)->ns.length<=63->z1P H T4 zav zb7->(∀H',Q (.bl true) H')->spLaw K T4 vs H Q E
theorem z3c:FnScope ["_law_script","_law_tables","_law_state","_law_handed","_law_found","_law_k"] ["_law_script"] (zm z5E):=by walk_at "s"
theorem zdw(F:Fun K "law" "law" z5E f fd)(T:Txt K mg)(c:Kn P w K mg base 1 "_law_stocked" ["_law_cells","_law_more"] (spStocked K))(s:Kn P w K mg base 10 "_law_grown" ["_law_cells","_law_tables"] (spGrown K))
  (o:Kn P w K mg base 1 "_law_again" ["_law_tables"] (spAgain K)) (z:Kn P w K mg base 12 "turnings" ["tables","question"] (spTurnings C T4)) (u:Kn P w K mg base 4 "_law_kept" ["_law_handed","_law_tables"] (spKept K)) (t:Kn P w K mg base 2 "_law_like" ["_law_found","_law_due"] (spLike K)) (l:Kn P w K mg base 164 "_law_turned" ["_law_one","_law_other","_law_tables"] (spTurnedL K)):FnOk P w K mg base CX0 165 f fd ["_law_script"] (spLaw K T4):=by
 refine F.okB z3c (λvs H Q E h=> ?_) (λvs H Q E h=> ?_)
 ·obtain⟨a,ns,rfl,_⟩:=h
  rfl
 obtain⟨a,ns,rfl,hS,hn,L4,q⟩:=h;intro ad A outer sh hr;have hu:=z1x hr;refine⟨_,(zc (seT 1 z3c (zW c hr.m (zj (jc kz v0 (jk zd) (jk zd)) (zo zd zb))))
  (zc (seT 2 z3c (zW s hr.m (zj (jc kz v0 jx (jk zd)) (zf v1 zb))))
  (zc (seT 3 z3c (zW o hr.m (zf v1 zb)))
  (zc (seT 4 z3c (zW z hr.m (zf v3 (zj (ixT v2 zd) zb))))
  (zc (zC (PW.pt (z2F (jT (zY (zW u hr.m (zf v3 (zf v1 zb))))) (z2F (jT (zY (zR zS rfl T.isinstance wO (zf v4 (zf (jQ (v:= .ty "list") rfl T.list qR rfl) zb))))) (z1V (cmT (z1M hu) v4 (zw zb))))))
   (zg (zt jD))
   zu)
  (zc (zC (jT (zY (zW t hr.m (zj (ixL v4 zd) (zj (ixT v2 zd) zb)))))
   (zg (zt jD))
   zu)
  (zc (foR (z5u rfl T.range (zo zd (zX (leN T.len (zf v4 zb)) zb))) (gnM 5 z3c)
   (zg (zC (jT (zY (zW l hr.m (zj (ixL v4 (zr z3a v5 zd)) (zj (ixL v4 v5) (zf v1 zb))))))
    (zg (zt jD))
    zu)))
  (zg (zt jD))))))))),?_⟩
 have Z:∀k:Nat,HT.sIx ns.length ns.length (some (k:Int))=min k ns.length/\HT.sIx ns.length 0 (some (k:Int))=min k ns.length:=λk=>by
  have hk:¬((k:Int) < 0):=by lia
  refine⟨?_,?_⟩ <;>
  ·show(if(k:Int) < 0 then((k:Int) + (ns.length:Int)).toNat else min (k:Int).toNat ns.length)=_
   rw [wU hk]
   rfl
 have c1:((ns.drop (HT.sIx ns.length 0 none)).take (HT.sIx ns.length ns.length (some 10) - HT.sIx ns.length 0 none)).length<=10:=by
  rw [wX,show HT.sIx ns.length ns.length (some 10)=_ from(Z 10).1]
  lia
 have c2:((ns.drop (HT.sIx ns.length 0 (some 10))).take (HT.sIx ns.length ns.length (some 22) - HT.sIx ns.length 0 (some 10))).length<=18:=by
  rw [wX,show HT.sIx ns.length ns.length (some 22)=_ from(Z 22).1,show HT.sIx ns.length 0 (some 10)=_ from(Z 10).2]
  lia
 refine !(!(!⟨a,!⟨hS,λl2 aD=> ?_⟩⟩));rw [z2W];refine ze (upd _ l2 _) rfl aD λH2 n2 x2=> ?_
 refine⟨l2,_,8,rfl,SqL.of x2,c2,by decide,by decide,λp th tr H4 n4 d X=> ?_⟩;have uQ:=n2.trans n4;refine !(!⟨a,!⟨uQ.seq hS,λl1 eB=> ?_⟩⟩);rw [z2W];refine ze (upd _ l1 _) rfl eB λH5 n5 x5=> ?_
 refine !⟨l1,p,_,th,tr,rfl,SqL.of x5,by lia,d,X.same n5,λv' B used twice H6 n6 AZ M hu ht=> ?_⟩;obtain⟨p',qv,hp,rp,rs,rfl,h1,h2,h3,h4,h5⟩:=AZ;have Y:=n5.trans n6;refine !⟨th,tr,p,rfl,d,X.same Y,λp7 H7 I f7=> ?_⟩;have L:=z1y d M.ok;have df:depth B<=25:=by have:=M.dp;lia
 have B0:zv B<=12:=wW M.lv (w0y (show used<=3 from hu) (yP twice).2);have O:=zbj M.ok df B0;have B2:=uQ.trans (Y.trans I);refine !(!(zh (I _ _ h1) zF ⟨th,tr,B,qv,p7,rfl,d,f7,h2.same I,L,O,L4.same B2,λfl us q8 H8 R N N8 ac=> ?_⟩));have ny:=((X.same Y).same I).ev R;have B3:=f7.ev R;have B4:=R.tup (I _ _ h1);have B5:QAt H8 B qv:=(h2.same I).mono λb xs e=>R.tup e
 have xv:=zeB M.ok;obtain⟨v0,e0,B6⟩:=N8.first
 have i0:atI us 0=some v0:=zN (j:=0) e0;obtain⟨_,Er,_⟩:=N8.eqv d L;refine !(!⟨th,tr,p7,p,rfl,d,B3,ny,!?_⟩);refine ifF (by rfl) ?_;refine !⟨_,_,_,!⟨TyOf.lst N,jC,!?_⟩⟩;refine ifF (by rfl) ?_;refine !⟨(zq rfl),λep U=> ?_⟩;refine ze (upd _ ep _) rfl U λH9 G x9=> ?_
 refine⟨fl,ep,_,rfl,rfl,SqL.of (G _ _ N),SqL.of x9,!?_⟩;refine ifF (by cases us with | nil=>cases e0 | cons _ _=>rfl) ?_;have sp:∀{r:Qn},wt r<=4000->(post r).length<=4000:=λ{r} h=>wW (z3Y r) h
 have eO:=sp O;have g0:=B6.same G;have g1:=B5.same G;obtain⟨m1,w1,Es⟩:=z2J d g0 L;obtain⟨m2,w2,Et⟩:=z2J d g1 L;refine !(zx (G _ _ N) i0 (!(zh (G _ _ B4) zF ⟨_,_,_,_,rfl,w1,w2,by lia,λb J bi ib=>!?_⟩)));refine ifF (by rw [ib.mpr (z1H g0 g1)];rfl) ?_;have gC:=G.trans bi;have dy:=gC _ _ N;have iB:=ny.same gC;have S:Tns th J us B q8:=N8.mono λb xs e=>gC _ _ e
 have B7:us.length<=16000001:=by
  have z1:=zcZ (th:=th) B;have z2:wt B * wt B<=4000 * 4000:=w0y O O
  lia
 refine !⟨fl,!⟨.inl (SqL.of dy),1,_,rfl,⟨by decide,by decide,by lia,by lia⟩,z0v (lo:=1) (n:=((us.length:Int) - 1).toNat) (λi σ H'=>∃o5:Option V,σ= [some (.ref a),some (.ref p),some (.ref p'),some (.ref p7),some (.ref fl),o5]/\zz J H') ⟨none,rfl,zz.refl _⟩ ?_ ?_⟩⟩
 ·rintro i σ H' hi ⟨o5,rfl,D⟩;obtain⟨qa,qb,x,y,ex,ey,ha,hb,B8,B9,Eu,Ew⟩:=S.at d L i (by lia);have i1:atI us (1 + (i:Int) - 1)=some x:=by rw [show 1 + (i:Int) - 1=((i:Nat):Int) by lia];exact zN ex
  have i2:atI us (1 + (i:Int))=some y:=by rw [show 1 + (i:Int)=((i + 1:Nat):Int) by lia];exact zN ey
  have da:depth qa<=100:=by have:=zb9 qa;lia
  refine !(!(ex2 rfl rfl (zx (D _ _ dy) i1 (!(!(zx (D _ _ dy) i2 (!⟨th,tr,qa,qb,x,y,p,rfl,d,iB.same D,ha.same D,hb.same D,B8,B9,da,by lia,λae bj=>!?_⟩)))))));refine ifF rfl ?_;exact !(D.trans bj)
 ·rintro σ H' ⟨o5,rfl,D⟩;exact q H'
end
structure DI(K:W.Frag)(x:Str)(st:Stmt)(f:Addr):Prop where
 ex:∃fd,Fun K x x st f fd
 a:PySem.W.nsIn K mainGlobals x=some (some (.ref f))
 k:PySem.W.keepIn K (.ref f)=true
structure DL(K:W.Frag)(x:Str)(st:Stmt)(f T:Addr):Prop where
 ex:∃fd c,Fun K x x st f fd/\fd.code= .ref c/\PySem.W.codeHdIn K c T=true
 a:PySem.W.nsIn K mainGlobals x=some (some (.ref f))
 k:PySem.W.keepIn K (.ref f)=true
structure Wd(P:Program)(w:World)(K:W.Frag)(mg:Str->Option Value)(base:Heap):Prop where
 ex:∃h:Heap,K.In h/\h.Ns mainGlobals mg
 kb:K.In base
variable{z:Str}
section
variable{K:W.Frag}{x y:Str}{st:Stmt}{f T:Addr}{k:Nat}{ps:List Str}{oc kV aS pm ad ct:Value}{od an:Option Addr}{cB:Array (Option Value)}
def di(a:PySem.W.nsIn K mainGlobals x=some (some (.ref f)))(l:K.lookup f=some ⟨oc,od,.func (PySem.W.fnOf x x (z0l st) (yq st) (zm st) .none kV aS pm an ad ct),cB⟩)(c:PySem.W.codeIn K ad x=true)(h:PySem.W.keepIn K (.ref f)=true):DI K x st f:=⟨⟨_,z6a l c h⟩,a,h⟩
theorem dl(a:PySem.W.nsIn K mainGlobals x=some (some (.ref f)))(l:K.lookup f=some ⟨oc,od,.func (PySem.W.fnOf x x (z0l st) (yq st) (zm st) .none kV aS pm an ad ct),cB⟩)(c:PySem.W.codeIn K ad x=true)(h:PySem.W.keepIn K (.ref f)=true)(t:L2.codeOf K ad T=true):DL K x st f T:=by
 obtain⟨c',rfl,z⟩:=L2.codeOf_ex t;exact⟨⟨_,c',z6a l c h,rfl,z⟩,a,h⟩
def Wd.gl{v:Value}(W:Wd P w K mg base)(a:PySem.W.nsIn K mainGlobals x=some (some v)):mg x=some v:=let ⟨_,X,G⟩:=W.ex;PySem.W.mg_of X G a
theorem kn(W:Wd P w K mg base)(d:DI K x st f)(ok:∀{fd},Fun K x x st f fd->FnOk P w K mg base CX0 k f fd ps sp)(b:∀{fd},Fun K x x st f fd->Binds K fd ps []:=by first | exact λF=>F.binds λ_ _ _ _ _ _=>zbK λ_=>rfl | exact λF=>F.binds λ_ _ _ _ _ _=>zaL λ_ _=>rfl | exact λF=>F.binds λ_ _ _ _ _ _=>zbe λ_ _ _=>rfl | exact λF=>F.binds λ_ _ _ _ _ _=>zeD λ_ _ _ _=>rfl):Kn P w K mg base k x ps sp:=
 let ⟨_,F⟩:=d.ex
 ⟨_,_,ok F,W.gl d.a,d.k,b F⟩
theorem knR(W:Wd P w K mg base)(d:DI K x st f)(ok:∀{fd},Fun K x x st f fd->(∀(kk:Nat) (c:Sp),FnOk P w K mg base CX0 kk f fd ps c->Kn P w K mg base kk x ps c)->FnOk P w K mg base CX0 k f fd ps sp)(b:∀{fd},Fun K x x st f fd->Binds K fd ps []:=by first | exact λF=>F.binds λ_ _ _ _ _ _=>zbK λ_=>rfl | exact λF=>F.binds λ_ _ _ _ _ _=>zaL λ_ _=>rfl | exact λF=>F.binds λ_ _ _ _ _ _=>zbe λ_ _ _=>rfl):Kn P w K mg base k x ps sp:=
 let ⟨_,F⟩:=d.ex
 ⟨_,_,ok F λ_ _ h=>⟨_,_,h,W.gl d.a,d.k,b F⟩,W.gl d.a,d.k,b F⟩
theorem knS{sp:SpS}(W:Wd P w K mg base)(d:DI K x st f)(ok:∀{fd},Fun K x x st f fd->FnOkS P w K mg base CX0 k f fd ps sp)(b:∀{fd},Fun K x x st f fd->Binds K fd ps []:=by exact λF=>F.binds λ_ _ _ _ _ _=>zaL λ_ _=>rfl):KnS P w K mg base CX0 k x ps sp:=
 let ⟨_,F⟩:=d.ex
 ⟨_,_,ok F,W.gl d.a,d.k,b F⟩
structure DM(K:W.Frag)(C:Addr)(x y:Str)(st:Stmt)(f:Addr):Prop where
 ex:∃fd,Fun K x y st f fd
 a:PySem.W.findIn K (.ref C) x=some (some (.ref f))
 n:PySem.W.isFn K (.ref f)=true
 k:PySem.W.keepIn K (.ref f)=true
structure DN(K:W.Frag)(C:Addr)(x y:Str)(st:Stmt)(f T:Addr):Prop where
 ex:∃fd c,Fun K x y st f fd/\fd.code= .ref c/\PySem.W.codeHdIn K c T=true
 a:PySem.W.findIn K (.ref C) x=some (some (.ref f))
 n:PySem.W.isFn K (.ref f)=true
structure DC(K:W.Frag)(x:Str)(C:Addr):Prop where
 a:PySem.W.nsIn K mainGlobals x=some (some (.ref C))
 m:PySem.W.makesIn K C=true
 k:PySem.W.keepIn K (.ref C)=true
def dm(a:PySem.W.findIn K (.ref C) x=some (some (.ref f)))(l:K.lookup f=some ⟨oc,od,.func (PySem.W.fnOf x y (z0l st) (yq st) (zm st) .none kV aS pm an ad ct),cB⟩)(c:PySem.W.codeIn K ad y=true)(h:PySem.W.keepIn K (.ref f)=true)(n:PySem.W.isFn K (.ref f)=true):DM K C x y st f:=⟨⟨_,z6a l c h⟩,a,n,h⟩
theorem dn(a:PySem.W.findIn K (.ref C) x=some (some (.ref f)))(l:K.lookup f=some ⟨oc,od,.func (PySem.W.fnOf x y (z0l st) (yq st) (zm st) .none kV aS pm an ad ct),cB⟩)(c:PySem.W.codeIn K ad y=true)(h:PySem.W.keepIn K (.ref f)=true)(n:PySem.W.isFn K (.ref f)=true)(t:L2.codeOf K ad T=true):DN K C x y st f T:=by
 obtain⟨c',rfl,z⟩:=L2.codeOf_ex t;exact⟨⟨_,c',z6a l c h,rfl,z⟩,a,n⟩
def dc(a:PySem.W.nsIn K mainGlobals x=some (some (.ref C)))(m:PySem.W.makesIn K C=true)(h:PySem.W.keepIn K (.ref C)=true):DC K x C:=⟨a,m,h⟩
theorem knM(W:Wd P w K mg base)(c:Cls K C)(d:DM K C x y st f)(ok:∀{fd},Fun K x y st f fd->FnOk P w K mg base CX0 k f fd ps sp)(b:∀{fd},Fun K x y st f fd->Binds K fd ps []:=by first | exact λF=>F.binds λ_ _ _ _ _ _=>zbK λ_=>rfl | exact λF=>F.binds λ_ _ _ _ _ _=>zaL λ_ _=>rfl):KnM P w K mg base k x ps sp C:=
 let ⟨_,F⟩:=d.ex
 ⟨c,_,_,⟨d.a,d.n,d.k⟩,ok F,b F⟩
theorem knC(W:Wd P w K mg base)(e:DC K z C)(d:DM K C "__init__" y st f)(ok:∀{fd},Fun K "__init__" y st f fd->FnOk P w K mg base CX0 k f fd ps sp)(b:∀{fd},Fun K "__init__" y st f fd->Binds K fd ps []:=by exact λF=>F.binds λ_ _ _ _ _ _=>zeD λ_ _ _ _=>rfl):KnC P w K mg base k z ps sp C:=
 let ⟨_,F⟩:=d.ex
 ⟨_,_,⟨e.m,d.a,d.n,e.k⟩,ok F,W.gl e.a,b F⟩
theorem knN(W:Wd P w K mg base)(e:DC K z C)(d:DN K C "__init__" y st f T)(ok:∀{fd c},Fun K "__init__" y st f fd->fd.code= .ref c->PySem.W.CodeHd base c T->FnOk P w K mg base CX0 k f fd ps sp)(b:∀{fd},Fun K "__init__" y st f fd->Binds K fd ps []:=by exact λF=>F.binds λ_ _ _ _ _ _=>zbe λ_ _ _=>rfl):KnC P w K mg base k z ps sp C:=
 let ⟨_,_,F,hc,h⟩:=d.ex
 ⟨_,_,⟨e.m,d.a,d.n,e.k⟩,ok F hc (PySem.W.codeHd_of_K W.kb h),W.gl e.a,b F⟩
end
variable{l:PySem.W.OpenLaw}
theorem all_mk{K:W.Frag}{h:Heap}{E f0 f1 f2 f3 f4 f5 f6 f7 f8 f9 iB oo oq Q ou ow oz oA oB oC oE Ba Bb Bc Bd Be Bf S Bh Bi Bj Bk Bl U Bn Bo Y Bq Br Bs Bt Bu Bv Bw Bx By Bz BA ny BB BC BD BE BF BG j f d:Addr}(X:K.In h)(G:h.Ns mainGlobals mg)(BH:mg "law"=some (.ref E))
  (BI:DC K "Place" f) (b:PC K f)
  (BJ:DC K "Turner" d) (c:TC K d)
  (d0:DI K "columns_of" z1q f0)
  (d1:DI K "straight_within" ku f1)
  (d2:DI K "inner_first" z0X f2)
  (d3:DI K "built_up" z2z f3)
  (d4:DI K "heads_of_table" kQ f4)
  (d5:DI K "check_columns" z0h f5)
  (d6:DI K "each_once" z1F f6)
  (d7:DI K "heads_over_one" kL f7)
  (d8:DI K "heads_over_two" kN f8)
  (d9:DI K "heads_at" z2x f9)
  (P:DI K "_law_texts" z1m iB)
  (BL:DI K "_law_whole" z1j oo)
  (BM:DI K "_law_numbers" z0A oq)
  (O:DI K "_law_alike" z1v Q)
  (BO:DI K "_law_again" kD ou)
  (BP:DI K "_law_kept" z1G ow)
  (BQ:DI K "_law_stocked" yC oz)
  (BR:DI K "_law_spelt" ke oA)
  (BS:DI K "_law_true" z08 oB)
  (BT:DI K "_law_asking" z0S oC)
  (BU:DI K "_law_picked" kX oE)
  (BV:DI K "_law_columns" yf Ba)
  (BW:DI K "_law_sorted" kY Bb)
  (BX:DI K "_law_headed" z0Z Bc)
  (BY:DI K "_law_doubled" z0x Bd)
  (BZ:DI K "_law_united" z01 Be)
  (C0:DI K "_law_counted" yd Bf)
  (C3:DI K "_law_grown" z1p S)
  (C4:DM K f "__init__" "Place.__init__" z0r Bh)
  (C5:DI K "is_pick" z3t Bi)
  (C6:DI K "picked" z4l Bj)
  (C7:DI K "among" z3T Bk)
  (C8:DI K "joined_by" z1R Bl)
  (C9:DI K "sent_to_a_part" kS U)
  (Ca:DI K "sent_within" kU Bn)
  (Cb:DI K "takes" z6j Bo)
  (Cc:DI K "passes" z4n Y)
  (Cd:DI K "turned_pick" z0W Bq)
  (Ce:DI K "turned_first" z0F Br)
  (Z:DI K "turned" z4E Bs)
  (Cg:DI K "place_over" z0p Bt)
  (Ch:DN K d "__init__" "Turner.__init__" z00 Bu j)
  (Ci:DM K d "go_within" "Turner.go_within" yQ Bv)
  (Cj:DM K d "go_back" "Turner.go_back" kJ Bw)
  (Ck:DM K d "turn" "Turner.turn" yL Bx)
  (Cl:DM K d "whole" "Turner.whole" kg By)
  (Cm:DI K "turnings" z2t Bz)
  (Co:DI K "_law_headed_by" yj BA)
  (Cp:DI K "_law_named" z0o ny)
  (Cq:DI K "_law_parted" yM BB)
  (Cr:DI K "_law_folded" z0Y BC)
  (Cs:DI K "_law_forms" z0t BD)
  (Ct:DI K "_law_like" z1U BE)
  (Cu:DI K "_law_turned" kZ BF)
  (x:DI K "law" z5E BG)
  (z0:PySem.W.nsIn K mainGlobals "isinstance"=some none)
  (z1:PySem.W.nsIn K mainGlobals "int"=some none)
  (z2:PySem.W.nsIn K mainGlobals "bool"=some none)
  (z3:PySem.W.nsIn K mainGlobals "list"=some none)
  (z4:PySem.W.nsIn K mainGlobals "tuple"=some none)
  (z5:PySem.W.nsIn K mainGlobals "str"=some none)
  (z6:PySem.W.nsIn K mainGlobals "len"=some none)
  (z7:PySem.W.nsIn K mainGlobals "range"=some none)
  (z8:PySem.W.nsIn K mainGlobals "min"=some none)
  (z9:PySem.W.nsIn K mainGlobals "max"=some none)
  (Cv:PySem.W.nsIn K mainGlobals "sum"=some none)
  (Cw:PySem.W.nsIn K mainGlobals "sorted"=some none)
  (L:PySem.W.nsIn K mainGlobals "reversed"=some none)
  (Cz:PySem.W.nsIn K mainGlobals "zip"=some none)
  {n:Addr} {CA:Option Addr} {CB:Array (Option Value)} {nT:Nat} {t3 t4 t5:Tok} (aT:PySem.W.nsIn K mainGlobals "TWOFOLD"=some (some (.ref n))) (lT:K.lookup n=some ⟨.type "tuple",CA,.seq #[.str "pair" t3,.str "join" t4,.str "both" t5] nT,CB⟩)
  (zs:PySem.W.nsIn K mainGlobals "set"=some none)
  (CD:PySem.W.nsIn K mainGlobals "enumerate"=some none) (CF:PySem.W.nsIn K mainGlobals "all"=some none)
  :∃fd:FuncData,(∀(s:Shared) (v:Value),BindsTo s fd ⟨[v],[]⟩ [("_law_script",v)])/\∀base:Heap,K.In base->base.Ns mainGlobals mg->(∀T∈ [j],base.BuiltinsAt mg T)->FnOk l.prog w K mg base CX0 165 E fd ["_law_script"] (spLaw K j):=by
 have e:=BH.symm.trans (PySem.W.mg_of X G x.a);cases e;have T:Txt K mg:=⟨qM X G z0,qM X G z1,qM X G z2,qM X G z3,qM X G z4,qM X G z5,qM X G z6,qM X G z7,qM X G z8,qM X G z9,qM X G Cv,qM X G Cw,qM X G L,qM X G Cz⟩;have R:TxtP K mg:=⟨qM X G zs,⟨n,PySem.W.mg_of X G aT,λH=> .inr ⟨_,_,_,lT,rfl,rfl,(by show 3<=sizeLine;decide),.cons ⟨_,rfl⟩ (.cons ⟨_,rfl⟩ (.cons ⟨_,rfl⟩ .nil))⟩⟩⟩;have M:TxtM K mg:=⟨qM X G CF,qM X G CD⟩;obtain⟨fd,F⟩:=x.ex;obtain⟨oc,od,kV,dc,pm,an,cd,ct,sl,rfl,lk,aB⟩:=id F.ex;refine⟨PySem.W.fnOf "law" "law" (z0l z5E) (yq z5E) (zm z5E) .none kV dc pm an cd ct,λs v=> .of_eq rfl,λbase N _ hB=> ?_⟩;have W:Wd l.prog w K mg base:=⟨⟨h,X,G⟩,N⟩;have D:=kn W d0 λF=>z4W F T
 have p:=kn W d1 λF=>z2C F T R
 have n2:=kn W d2 λF=>z47 F T p
 have n3:=knS W d3 λF=>z7e (k:=8) (by decide) F T n2 p
 have n4:=kn W d4 λF=>z31 F T
 have t:=kn W d5 λF=>z3r F T
 have y:=kn W d6 λF=>z5U F T R
 have n7:=kn W d7 λF=>z2O F T t D y
 have n8:=kn W d8 λF=>z2G F T t y
 have n9:=kn W d9 λF=>z6u F T n4 n7 n8
 have bi:=kn W P λF=>z54 F T
 have I:=kn W BL λF=>z58 F T
 have n12:=kn W BM λF=>z3K F T I
 have am:=kn W O λF=>z53 F T n12
 have ar:=kn W BO λF=>z57 F T
 have aW:=kn W BP λF=>z6k F T bi am
 have bO:=kn W BQ λF=>z3P F T
 have aX:=knR (k:=7) W BR λF r=>z2m F T r 7
 have bv:=knR (k:=7) W BS λF r=>z2Z F T r 7
 have bn:=kn W BT λF=>z4r F T
 have q:=kn W BU λF=>z4o F T bn bv aX
 have CG:=kn W BV λF=>z3J F T
 have A:=kn W BW λF=>z4s F T
 have B:=kn W BX λF=>z4K F T
 have ni:=kn W BY λF=>z3L F T q
 have CI:=kn W BZ λF=>z4c F T A B
 have CJ:=kn W C0 λF=>z3I F T
 have CK:=kn W C3 λF=>z50 F T q CG CI ni B CJ A
 have i:=knC W BI C4 λF=>z4R F T b
 have u:=kn (sp:=(spIsPick f)) W C5 λF=>z82 F T b
 have o:=kn W C6 λF=>z9u F T b i
 have CM:=kn W C7 λF=>zaG F T M
 have CN:=kn W C8 λF=>z5Z F T b i
 have CO:=kn W C9 λF=>z2L F T b i D CM o CN
 have J:=kn W Ca λF=>z4D F T b i o CO
 have CP:=kn (sp:=(spTakes f)) W Cb λF=>zaD F T J
 have CQ:=kn W Cc λF=>z9v F T b u CP
 have gA:=kn W Cd λF=>z4h F T b u J CQ o
 have gW:=kn W Ce λF=>z3G F T b i
 have gX:=kn W Z λF=>z9b F T b i gA gW
 have CS:=kn W Cg λF=>z55 F T b i n9
 have CT:=knN (sp:=(spTInit f d j)) W BJ Ch λF hc C=>z4z F T c hc C (hB _ (by simp)) n3 CS
 have CU:=knM (sp:=(spGoW f d)) W c.cls Ci λF=>z2e F T b c
 have CV:=knM (sp:=(spGoB f d)) W c.cls Cj λF=>z2S F T b c i
 have CW:=knM (sp:=(spTurn f d)) W c.cls Ck λF=>z4v F T M b c CV CU gX
 have CY:=knM (sp:=(spTWhole f d)) W c.cls Cl λF=>z3F F T b c
 have eE:=kn (sp:=(spTurnings f j)) W Cm λF=>z6s F T CT CW CY
 have CZ:=knR (k:=160) W Co λF r=>z0M F T r 160
 have D0:=kn W Cp λF=>z56 F T
 have D3:=kn W Cq λF=>z4Q F T CZ D0
 have D4:=kn W Cr λF=>z4B F T
 have D5:=knR (k:=163) W Cs λF r=>z2n F T D4 D3 r 2
 have z:=kn W Ct λF=>z6i F T I
 have D9:=kn W Cu λF=>z4m F T D5 z
 exact zdw F T bO CK ar eE aW z D9
theorem walk{q:Program}{loose:List Str}{t:(Str->Option Value)->Heap->Prop}{c:World->Heap->Prop}{d:DefRec}{K:Params->W.Frag}{b:Addr}(hn:l.most=some 63)(r:d.params.defaults= [])
  (y:∀(w:World) (h:Heap),c w h->(K w.params).In h/\∀T∈ [b],h.get? T=some (PySem.W.tabObj #[])) (j:∀(w:World),∀T∈ [b],L2.codeTabIn (K w.params) T=true) (i:∀(w:World),∀T∈ [b],(K w.params).lookup T=none)
  (F:∀(w:World) (mg:Str->Option Value) (e:Addr) (h:Heap),(K w.params).In h->h.Ns mainGlobals mg->mg d.name=some (.ref e)->
   ∃fd:FuncData,(∀(s:Shared) (u:Value),BindsTo s fd ⟨[u],[]⟩ [("_law_script",u)])/\∀base:Heap,(K w.params).In base->base.Ns mainGlobals mg->(∀T∈ [b],base.BuiltinsAt mg T)->FnOk l.prog w (K w.params) mg base CX0 165 e fd ["_law_script"] (spLaw (K w.params) b)):
  PySem.W.WalkO q loose t c l.row.toRowW d [] (λf vs=>PySem.call f vs):=
 L2.walk_ofT (n:=63) (k:=165) (x:="_law_script") (sp:=λw=>spLaw (K w.params) b) hn (by decide) r ⟨rfl,by decide,by decide⟩ y j i F λ_ _ a ns hl p o=>⟨a,ns,rfl,p,hl,.inl (o _ (by simp)),λ_=>rfl⟩
end Q12
structure PySem.W.Fast:Prop where
 (tw12213437664198580956 tw9794430383846330088 tw8517008845792501132 tw3049926773369638253 tw14417950785686422547 tw9900140453946810580 tw4967129449293835381 tw3148643788182285588 tw8316153398643706831 tw2050470821340800563 tw5912859524858696818 tw8606096277717838548 tw10335136554776779338 tw971300668384629968 tw16434692766516283614 tw4026837629802774545 tw6198086479993102026 tw1047408425429507387 tw9319174407400433969 tw16647771314702121794 tw1715914442287610800 tw11186448020416596665 tw4364051150987958301 tw17166656406655101063 tw8181879575287726038 tw1515940890760586120 tw1093226480745985094 tw15677326751303582418 tw11638299362081149236 tw7275413456314176675 tw6394348053936114445 tw3674842213452592162 tw1131204533957488689 tw1915776952938062051 tw7029356367310345464 tw1846110686961540340 tw13929507617022659412 tw12290633208153146074 tw3124520395910423271 tw5756169191655120488 tw4330327615731980917 tw2198440837078851680 tw7534821705449198053 tw18371525899522552323 tw16851251502090301469 tw5302488329070018422 tw4738312024899988142 tw16801182634752594122 tw9090607763802074328 tw10449735763158167936 tw16375914018016856721 tw5104699363924323612 tw6158816328481292157 tw16182710434360898845 tw1614323926756229631 tw6593351480533998502 tw10683715516737434696 tw8751834431917055544 tw13531076247993306616 tw3748486773484610872 tw11259040064878643965 tw13462177695807657348 tw18088022512466817293 tw17948429494486522137 tw13359717958827149345 tw11487294185337270256 tw97006312505660910 tw9640126872902973731 tw18303023906629363439 tw14571310643321055355 tw13531866915438138513 tw1003708231880070921 tw4449318065358094343 tw4699057885295661739 tw8771217012377190358 tw1780478104719390161 tw5382683532690530042 tw7158520660818080245 tw6747351602436182091 tw17901203232792756517 tw4508730531527725669 tw18174348016277941868 tw840912651331398307 tw6669127814791422335 tw3285384026988707840 tw6023098522829311708 tw1335250044640643935 tw11065939684416999727 tw12875371001063958872 tw12317949227867238508 tw16214350449266518170 tw9400743608556301967 tw5391434877330834741 tw12704771431975870042 tw1798415374472918231 tw13862213160524775726 tw2680270006533370285 tw2938316597049477415 tw4494273262146425983 tw14553667120631458595 tw7717290733092933758 tw9611940730172336583 tw16218405450748576700 tw2532787860510731625 tw2440510239864390907 tw2330098327678126692 tw14908517499345211955 tw6496125511972573799 tw3236083794851508348 tw18343334671486652599 tw330621910969758721 tw9714116662835164932 tw11024526411806267219 tw1101076870297614205 tw6014727730433166987 tw17939804558812532740 tw2923200191209973306 tw7277221369669609484 tw2918207136052919244 tw3636816151490362204 tw5359263065591344937 tw16032879135353285222 tw6669854715454390278 tw15581326559141581348 tw6606823101127797914 tw8510889223860161941 tw17803421559637863784 tw11093515477188142963 tw7607563898484339139 tw13996599361869309585 tw2369626684126679582 tw4451257205345256879 tw7054829855691795099 tw814697038048497432 tw9262321743017943238 tw496227442876536452 tw3382827351118753416 tw4227891905808615308 tw2196800073980328184 tw7687991876281172701 tw8027141008987007962 tw3185542732384508829 tw3752320900377574300 tw10863967525906349108 tw7229292333243658928 tw8644845221628506990 tw4591878113045931013 tw9861407458722897638 tw7887773325149953820 tw5978322093702922059 tw13530634022418545958 tw8661078321750943017 tw8422285633679488443 tw9600573257553564739 tw9269489597152876657 tw9392533999165456842 tw7138583420339063612 tw15423891648987750038 tw9805208842267435520 tw2396302230810351797 tw17125539707007389652 tw13616919781872828325 tw3044562022849778973 tw12517791933383528737 tw14246836686416543951 tw1820285452381589944 tw3333864311037780429 tw14485648955182297276 tw12020421217672017981 tw9348544115178973212 tw2085025408401249066 tw13375207263819888803 tw5170661637886706075 tw3843401178488723347 tw13957258231061084645 tw7722846499987063008 tw2449565315618760564 tw1512332593432440776 tw14438787940733796190 tw9459085627658865744 tw2867091739436353809 tw8200395360847642762 tw16025118177816939997 tw11904615007422211483 tw7932577043325791511 tw4151067045245307876 tw5173023799357335903 tw5541411255029435085 tw6841895537422664047 tw16340791350659280108 tw7622614983042030468 tw3842196769831015267 tw2087949842433362143 tw14431567332274336401 tw12713828242189891503 tw8871075986568887794 tw14439249035884649860 tw8326374779234419952 tw3181432064087876900 tw12644788674967080899 tw633082421876067669 tw6088271079034566684 tw5729175875818678782 tw4838710688904055549 tw3984646003165053599 tw1855188896496656765 tw18358007406245638304 tw17046137223499345874 tw14320850698234078904 tw13774433072625564588 tw11941517449634570209 tw11915562198817497281 tw10588050250095674159 tw5896017620225190323:True)
open PySem PySem.W PyProof.Rows
set_option maxRecDepth 100000 in
set_option maxHeartbeats 0 in
theorem PySem.Challenge.cw_sheetask_k13_whole_one_turning_each_holds : PySem.Challenge.rw_sheetask_k13_whole_one_turning_each.Holds := by
 w_on;o_law;k_head;(case hw=>w_witness2)
 k_fill
 refine Q12.walk (l:=PySem.Challenge.rw_sheetask_k13_whole_one_turning_each) rfl rfl (λw h Y=>⟨PySem.W.km_in_of Y,PySem.W.km_tabs_of Y⟩) (λw=>List.forall_mem_cons.mpr ⟨by kernel_rfl,λ_ h=>nomatch h⟩) (λw=>List.forall_mem_cons.mpr ⟨by kernel_rfl,λ_ h=>nomatch h⟩) ?F
 case F=>
  intro w mg fa h KX G hmg;refine' Q12.all_mk KX G hmg ?_ ?_ ?_ ?_ ?_ ?_ ?_ ?_ ?_ ?_ ?_ ?_ ?_ ?_ ?_ ?_ ?_ ?_ ?_ ?_ ?_ ?_ ?_ ?_ ?_ ?_ ?_ ?_ ?_ ?_ ?_ ?_ ?_ ?_ ?_ ?_ ?_ ?_ ?_ ?_ ?_ ?_ ?_ ?_ ?_ ?_ ?_ ?_ ?_ ?_ ?_ ?_ ?_ ?_ ?_ ?_ ?_ ?_ ?_ ?_ ?_ ?_ ?_ ?_ ?_ ?_ ?_ ?_ ?_ ?_ ?_ ?_ ?_ ?_ ?_ ?_ ?_ ?_
  all_goals first | (apply Q12.di;k_is;k_is;k_is;k_is) | (apply Q12.dl;k_is;k_is;k_is;k_is;kernel_rfl) | (apply Q12.dm;k_is;k_is;k_is;k_is;kernel_rfl) | (apply Q12.dn;k_is;k_is;k_is;k_is;kernel_rfl;kernel_rfl) | (apply Q12.dc;k_is;kernel_rfl;k_is) | (refine⟨⟨?_,?_,?_,?_⟩,?_,?_,?_,?_,?_⟩ <;> (try delta L2.NoAttr) <;> kernel_rfl) | (refine⟨⟨?_,?_,?_,?_⟩,?_,?_⟩ <;> (try delta L2.NoAttr) <;> kernel_rfl) | k_is | kernel_rfl | skip
#print axioms PySem.Challenge.cw_sheetask_k13_whole_one_turning_each_holds

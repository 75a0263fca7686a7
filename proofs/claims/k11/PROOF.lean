import PyProof.Rows.All
import Wide.All
import OpenK.AllK
import Wide.FinOn
import Lean
import PyProof.EqAt
import PyProof.EqKinds
import PyProof.TupleCall
import KE.KIsAll
import KE.KItem
import KE.KxBytes
import KE.KDictSum
import KE.KDictLaws
import KE.KSortAsk
import KE.KSortTup
import KE.KLam
import KE.KNestM
import KE.KRevIter
import KE.KDictList
import PyProof.ExcArgs
import PyProof.Rows.StrCase
import PyProof.Rows.SetFrom
import PyProof.SetRoads
import PyProof.AutoSeq1
import PyProof.EnumFor
import PyProof.EnumMake
import PyProof.EnumStmt
import PyProof.Rows.EnumRows
import PyProof.ConsumeWalk
import KE.KTryMore
import PyProof.ExcArgs
import PyProof.ZipIter
import PySem.Challenge.RW_sheetask_k11_whole_turned_to_an_end
set_option Elab.async false
set_option linter.all false
set_option maxRecDepth 100000
section
open PySem PySem.Spec PyProof.Rows
theorem w9:type_of% @List.length_map:=@List.length_map
theorem wa:type_of% @List.getElem?_eq_getElem:=@List.getElem?_eq_getElem
theorem wb:type_of% @List.length_append:=@List.length_append
theorem we:type_of% @List.getElem?_eq_some_iff:=@List.getElem?_eq_some_iff
def wm:type_of% @Heap.get?_push_of_some:=@Heap.get?_push_of_some
theorem wo:type_of% @List.getD_eq_getElem?_getD:=@List.getD_eq_getElem?_getD
theorem wu:type_of% @List.mem_singleton:=@List.mem_singleton
theorem ww:type_of% @Nat.le_refl:=@Nat.le_refl
theorem wx:type_of% @List.mem_append:=@List.mem_append
theorem wy:type_of% @List.size_toArray:=@List.size_toArray
def wz:type_of% @wpAny_bind:=@wpAny_bind
theorem wC:type_of% @List.map_append:=@List.map_append
theorem wD:type_of% @List.length_singleton:=@List.length_singleton
theorem wE:type_of% @List.mem_cons:=@List.mem_cons
theorem wF:type_of% @List.mem_append_right:=@List.mem_append_right
theorem wG:type_of% @List.getElem_mem:=@List.getElem_mem
theorem wI:type_of% @decide_eq_false:=@decide_eq_false
theorem wJ:type_of% @List.length_cons:=@List.length_cons
theorem wL:type_of% @Heap.lt_size:=@Heap.lt_size
theorem wM:type_of% @if_neg:=@if_neg
theorem wN:type_of% @decide_eq_true:=@decide_eq_true
theorem wO:type_of% @List.getElem?_map:=@List.getElem?_map
theorem wQ:type_of% @Bool.false_ne_true:=@Bool.false_ne_true
theorem wR:type_of% @List.map_cons:=@List.map_cons
theorem wS:type_of% @List.length_take:=@List.length_take
theorem wT:type_of% @Nat.lt_of_lt_of_le:=@Nat.lt_of_lt_of_le
theorem wU:type_of% @if_pos:=@if_pos
def wV:type_of% @Nat.le_trans:=@Nat.le_trans
def wX:type_of% @PyProof.Rows.boot_isinstance:=@PyProof.Rows.boot_isinstance
theorem wY:type_of% @List.mem_cons_of_mem:=@List.mem_cons_of_mem
def wZ:type_of% @wpAny_pure:=@wpAny_pure
theorem q5:type_of% @Nat.ne_of_lt:=@Nat.ne_of_lt
theorem q9:type_of% @List.take_add_one:=@List.take_add_one
def qc:type_of% @Heap.get?_push_size:=@Heap.get?_push_size
theorem qd:type_of% @ne_of_beq_false:=@ne_of_beq_false
theorem qe:type_of% @List.mem_append_left:=@List.mem_append_left
theorem qf:type_of% @List.not_mem_nil:=@List.not_mem_nil
def qi:type_of% @of_decide_eq_true:=@of_decide_eq_true
def qj:type_of% @PySem.F.plainAttrs_list:=@PySem.F.plainAttrs_list
def qz:type_of% @List.length_filter_le:=@List.length_filter_le
theorem qA:type_of% @List.mem_map:=@List.mem_map
theorem qB:type_of% @List.take_length:=@List.take_length
theorem qC:type_of% @List.lookup_cons:=@List.lookup_cons
theorem qD:type_of% @List.mem_of_getElem?:=@List.mem_of_getElem?
def qE:type_of% @List.mem_cons_self:=@List.mem_cons_self
def qF:type_of% @PyProof.Rows.boot_list:=@PyProof.Rows.boot_list
theorem qH:type_of% @List.all_eq_true:=@List.all_eq_true
def qI:type_of% @PySem.W.mg_none_of:=@PySem.W.mg_none_of
theorem qN:type_of% @List.filter_cons_of_pos:=@List.filter_cons_of_pos
theorem qO:type_of% @List.map_nil:=@List.map_nil
def qP:type_of% @List.idxOf_lt_length_iff:=@List.idxOf_lt_length_iff
theorem qR:type_of% @List.sum_cons:=@List.sum_cons
theorem qT:type_of% @Bool.and_eq_true:=@Bool.and_eq_true
theorem qW:type_of% @Bool.eq_false_iff:=@Bool.eq_false_iff
def qX:type_of% @PyProof.Rows.boot_str:=@PyProof.Rows.boot_str
def qY:type_of% @Nat.zero_le:=@Nat.zero_le
def Q2:type_of% @Heap.get?_update_other:=@Heap.get?_update_other
def Q3:type_of% @PyProof.Rows.callWith_type1:=@PyProof.Rows.callWith_type1
def Q4:type_of% @PyProof.Rows.slot_tuple_getitem:=@PyProof.Rows.slot_tuple_getitem
theorem Q5:type_of% @Nat.lt_succ_of_lt:=@Nat.lt_succ_of_lt
theorem Q6:type_of% @List.sum_nil:=@List.sum_nil
theorem Q7:type_of% @List.getElem?_append_right:=@List.getElem?_append_right
def Q8:type_of% @PySem.F.slot_list_index:=@PySem.F.slot_list_index
theorem Q9:type_of% @List.append_assoc:=@List.append_assoc
def Qa:type_of% @congrArg:=@congrArg
theorem Qb:type_of% @List.append_nil:=@List.append_nil
def Qd:type_of% @PySem.mem_of_lookup:=@PySem.mem_of_lookup
theorem Qe:type_of% @List.length_nil:=@List.length_nil
theorem Qf:type_of% @List.mem_range:=@List.mem_range
theorem Qg:type_of% @Heap.size_push:=@Heap.size_push
theorem Qi:type_of% @beq_iff_eq:=@beq_iff_eq
def Qj:type_of% @PySem.F.type_list_index:=@PySem.F.type_list_index
theorem Qk:type_of% @Nat.mul_add:=@Nat.mul_add
def Ql:type_of% @wpAny_Call_Name_kw:=@wpAny_Call_Name_kw
theorem Qo:type_of% @List.take_of_length_le:=@List.take_of_length_le
def Qp:type_of% @List.mem_filter:=@List.mem_filter
def Qr:type_of% @PySem.W.kia_one:=@PySem.W.kia_one
theorem Qt:type_of% @List.getElem?_append_left:=@List.getElem?_append_left
theorem Qu:type_of% @or_false:=@or_false
def Qv:type_of% @Nat.mul_le_mul_left:=@Nat.mul_le_mul_left
def Qz:type_of% @PyProof.Rows.boot_tuple:=@PyProof.Rows.boot_tuple
def QA:type_of% @List.length_eq_zero_iff:=@List.length_eq_zero_iff
def QC:type_of% @List.mem_of_mem_take:=@List.mem_of_mem_take
def QD:type_of% @Nat.mul_le_mul_right:=@Nat.mul_le_mul_right
theorem QF:type_of% @Nat.ne_of_gt:=@Nat.ne_of_gt
def QH:type_of% @Or.inr:=@Or.inr
def QK:type_of% @wpAny_mono:=@wpAny_mono
theorem QL:type_of% @List.nodup_append:=@List.nodup_append
theorem QM:type_of% @List.reverse_cons:=@List.reverse_cons
def QN:type_of% @List.length_pos_iff:=@List.length_pos_iff
theorem QO:type_of% @Nat.lt_irrefl:=@Nat.lt_irrefl
def QP:type_of% @wpAny_holding:=@wpAny_holding
theorem QQ:type_of% @List.pairwise_iff_getElem:=@List.pairwise_iff_getElem
def QR:type_of% @PySem.F.slot_list_pop:=@PySem.F.slot_list_pop
def QS:type_of% @PySem.F.type_list_pop:=@PySem.F.type_list_pop
def QU:type_of% @Calls.spliced_cons:=@Calls.spliced_cons
def QV:type_of% @Or.inl:=@Or.inl
theorem QW:type_of% @sizeLine_eq:=@sizeLine_eq
theorem QX:type_of% @beq_self_eq_true:=@beq_self_eq_true
theorem QY:type_of% @Nat.add_mul:=@Nat.add_mul
theorem QZ:type_of% @List.getElem_toArray:=@List.getElem_toArray
theorem w00:type_of% @List.dropLast_concat:=@List.dropLast_concat
theorem w03:type_of% @List.filter_cons_of_neg:=@List.filter_cons_of_neg
theorem w08:type_of% @PyProof.Rows.F.plain_set_update_loop:=@PyProof.Rows.F.plain_set_update_loop
def w09:type_of% @wpAny_truthy_bool:=@wpAny_truthy_bool
def w0b:type_of% @beq_eq_false_iff_ne:=@beq_eq_false_iff_ne
theorem w0d:type_of% @Bool.eq_iff_iff:=@Bool.eq_iff_iff
theorem w0e:type_of% @List.nodup_cons:=@List.nodup_cons
theorem w0g:type_of% @List.length_reverse:=@List.length_reverse
theorem w0h:type_of% @List.filter_map:=@List.filter_map
theorem w0i:type_of% @List.filter_eq_nil_iff:=@List.filter_eq_nil_iff
def w0l:type_of% @True.intro:=@True.intro
theorem w0m:type_of% @Nat.lt_succ_self:=@Nat.lt_succ_self
def w0p:type_of% @codeAny_mono:=@codeAny_mono
theorem w0q:type_of% @List.length_replicate:=@List.length_replicate
theorem w0r:type_of% @List.filter_append:=@List.filter_append
theorem w0u:type_of% @List.take_zero:=@List.take_zero
theorem w0v:type_of% @if_false:=@if_false
def w0x:type_of% @wpAny_passesOwn:=@wpAny_passesOwn
def w0z:type_of% @wpAny_newObj_type:=@wpAny_newObj_type
def w0A:type_of% @pushCells_keeps:=@pushCells_keeps
theorem w0B:type_of% @List.flatMap_cons:=@List.flatMap_cons
def w0C:type_of% @List.filter_congr:=@List.filter_congr
theorem w0D:type_of% @Int.zero_add:=@Int.zero_add
theorem w0E:type_of% @Array.length_toList:=@Array.length_toList
theorem w0G:type_of% @List.map_take:=@List.map_take
theorem w0H:type_of% @List.flatMap_append:=@List.flatMap_append
theorem w0I:type_of% @List.length_drop:=@List.length_drop
def w0K:type_of% @Nat.mul_le_mul:=@Nat.mul_le_mul
theorem w0L:type_of% @List.getElem?_set_self:=@List.getElem?_set_self
theorem w0M:type_of% @if_true:=@if_true
def w0N:type_of% @PySem.W.callWith_K:=@PySem.W.callWith_K
theorem w0O:type_of% @List.filter_filter:=@List.filter_filter
theorem w0Q:type_of% @Heap.get?_update_self:=@Heap.get?_update_self
theorem w0R:type_of% @List.find?_cons:=@List.find?_cons
def w0T:type_of% @F.called_set:=@F.called_set
theorem w0U:type_of% @List.map_map:=@List.map_map
def w0V:type_of% @PyProof.Rows.boot_sum:=@PyProof.Rows.boot_sum
def w0X:type_of% @Calls.spliced_nil:=@Calls.spliced_nil
theorem w0Y:type_of% @Bool.true_and:=@Bool.true_and
theorem w0Z:type_of% @Str.length_append:=@Str.length_append
theorem w11:type_of% @Bool.false_and:=@Bool.false_and
theorem w13:type_of% @List.drop_zero:=@List.drop_zero
def w14:type_of% @List.any_eq_true:=@List.any_eq_true
def w15:type_of% @decide_eq_decide:=@decide_eq_decide
theorem w19:type_of% @List.filter_eq_self:=@List.filter_eq_self
def w1a:type_of% @List.map_congr_left:=@List.map_congr_left
theorem w1b:type_of% @Nat.one_mul:=@Nat.one_mul
theorem w1g:type_of% @Nat.zero_add:=@Nat.zero_add
theorem w1h:type_of% @Ne.symm:=@Ne.symm
theorem w1j:type_of% @List.any_cons:=@List.any_cons
def w1l:type_of% @wpAny_ite_split:=@wpAny_ite_split
def w1t:type_of% @Nat.le_of_lt:=@Nat.le_of_lt
def w1x:type_of% @wpAny_call:=@wpAny_call
theorem w1A:type_of% @Nat.mul_one:=@Nat.mul_one
end
namespace L2
open PySem PySem.Spec PyProof.Rows
abbrev Key:=Sum Int Str
noncomputable def z4f:Key->Value->Bool
 | .inl k,v=>Value.isInt k v
 | .inr x,v=>Value.isStrOf x v
noncomputable def zeP(w:World):Key->Int
 | .inl k=>hashInt k
 | .inr x=>hashStr w x
theorem jN:∀{k:Key} {v:Value},z4f k v=true->(∃i t,k=Sum.inl i/\v=Value.int i t)\/(∃x t,k=Sum.inr x/\v=Value.str x t)
 | .inl i,v,h=>by
  obtain⟨t,e⟩:=Value.isInt_shape (k:=i) (v:=v) h;exact .inl ⟨i,t,rfl,e⟩
 | .inr x,v,h=>by
  obtain⟨t,e⟩:=Value.isStrOf_shape (x:=x) (v:=v) h;exact .inr ⟨x,t,rfl,e⟩
theorem z98(i:Int)(t:Tok):z4f (.inl i) (.int i t)=true:=by simp [z4f,Value.isInt]
theorem z8W(x:Str)(t:Tok):z4f (.inr x) (.str x t)=true:=by simp [z4f,Value.isStrOf]
theorem zcS(a b:Int):decide ((Sum.inl a:Key)=Sum.inl b)=(a == b):=by
 by_cases e:a=b
 ·subst e;simp
 ·have h:¬(Sum.inl a:Key)=Sum.inl b:=λq=>e (Sum.inl.inj q)
  rw [wI h];exact(w0b.mpr e).symm
theorem zda(a b:Str):decide ((Sum.inr a:Key)=Sum.inr b)=decide (a=b):=by
 by_cases e:a=b
 ·subst e;simp
 ·have h:¬(Sum.inr a:Key)=Sum.inr b:=λq=>e (Sum.inr.inj q)
  rw [wI h,wI e]
theorem zdE(a:Int)(b:Str):decide ((Sum.inl a:Key)=Sum.inr b)=false:=wI (λq=>nomatch q)
theorem zcB(a:Str)(b:Int):decide ((Sum.inr a:Key)=Sum.inl b)=false:=wI (λq=>nomatch q)
noncomputable def jC(prog:Program)(w:World):PySem.KeyKind prog w Key where
 is:=z4f
 hash:=zeP w
 inj:=λv a b ha d=>by
  rcases jN ha with⟨i,t,rfl,rfl⟩ | ⟨x,t,rfl,rfl⟩
  ·rcases jN d with⟨j,u,rfl,e⟩ | ⟨y,u,rfl,e⟩
   ·injection e with e1 _;rw [e1]
   ·exact nomatch e
  ·rcases jN d with⟨j,u,rfl,e⟩ | ⟨y,u,rfl,e⟩
   ·exact nomatch e
   ·injection e with e1 _;rw [e1]
 byValue:=λk v h=>by
  rcases jN h with⟨i,t,rfl,rfl⟩ | ⟨x,t,rfl,rfl⟩ <;> rfl
 pyHash:=λc h=>by
  rcases jN c with⟨i,t,rfl,rfl⟩ | ⟨x,t,rfl,rfl⟩
  ·exact wpAny_pyHash_int h
  ·exact wpAny_pyHash_str h
 eqBool:=λf c h=>by
  rcases jN f with⟨i,t,rfl,rfl⟩ | ⟨x,t,rfl,rfl⟩
  ·rcases jN c with⟨j,u,rfl,rfl⟩ | ⟨y,u,rfl,rfl⟩
   ·rw [zcS]at h;exact wpAny_eqBool_int h
   ·rw [zdE]at h;exact SeqAt.EqAt.int_str i t y u _ _ _ _ h
  ·rcases jN c with⟨j,u,rfl,rfl⟩ | ⟨y,u,rfl,rfl⟩
   ·rw [zcB]at h;exact SeqAt.EqAt.str_int x t j u _ _ _ _ h
   ·rw [zda]at h;exact wpAny_eqBool_str h
 «strs»:=λk x t v h=>by
  rcases jN h with⟨i,u,rfl,e⟩ | ⟨y,u,rfl,e⟩
  ·exact nomatch e
  ·injection e with e1 _
   subst e1;cases v <;> rfl
def z6E(prog:Program)(w:World)(i:Int)(t:Tok):(jC prog w).is (.inl i) (.int i t)=true:=z98 i t
def z72(prog:Program)(w:World)(x:Str)(t:Tok):(jC prog w).is (.inr x) (.str x t)=true:=z8W x t
inductive V where
 | non | bl (b:Bool) | int (i:Int) | str (x:Str) | byt (b:Array UInt8) | flt (b:UInt64) | ref (a:Addr) | ty (n:String)
 deriving DecidableEq
def RelV:V->Value->Prop
 | .non,u=>u=Value.none
 | .bl b,u=>u=Value.bool b
 | .int i,u=>∃t,u=Value.int i t
 | .str x,u=>∃t,u=Value.str x t
 | .byt b,u=>∃t,u=Value.bytes b t
 | .flt b,u=>∃t,u=Value.float b t
 | .ref a,u=>u=Value.ref a
 | .ty n,u=>u=Value.type n
abbrev zP:List V->List Value->Prop:=Paired RelV
variable{xs:List V}{us:List Value}
theorem zP.length(r:zP xs us):xs.length=us.length:=Paired.length r
theorem zP.get:∀{xs:List V} {us:List Value} {i:Nat} {x:V},zP xs us->xs[i]? =some x->∃u,us[i]? =some u/\RelV x u
 | _,_,_,_,.nil,e=>by simp at e
 | _,_,0,_,.cons r _,e=>by simp at e;subst e;exact⟨_,rfl,r⟩
 | _,_,i + 1,x,.cons _ t,e=>by
  obtain⟨u,h1,h2⟩:=zP.get (i:=i) (x:=x) t (by simpa using e);exact⟨u,by simpa using h1,h2⟩
variable{u:Value}{x:V}
theorem zP.set(r:RelV x u):∀{xs:List V} {us:List Value} (i:Nat),zP xs us->zP (xs.set i x) (us.set i u)
 | _,_,_,.nil=> .nil
 | _,_,0,.cons _ t=> .cons r t
 | _,_,i + 1,.cons q t=> .cons q (zP.set r i t)
def zP.append:∀{xs ys:List V} {us ws:List Value},zP xs us->zP ys ws->zP (xs ++ ys) (us ++ ws)
 | _,_,_,_,.nil,s=>s
 | _,_,_,_,.cons r t,s=> .cons r (zP.append t s)
theorem zP.take:∀{xs:List V} {us:List Value} (n:Nat),zP xs us->zP (xs.take n) (us.take n)
 | _,_,0,_=> .nil
 | _,_,_ + 1,.nil=> .nil
 | _,_,n + 1,.cons r t=> .cons r (zP.take n t)
theorem zP.drop:∀{xs:List V} {us:List Value} (n:Nat),zP xs us->zP (xs.drop n) (us.drop n)
 | _,_,0,r=>r
 | _,_,_ + 1,.nil=> .nil
 | _,_,n + 1,.cons _ t=>zP.drop n t
def z29:Option V->Option Value->Prop
 | some v,some u=>RelV v u
 | none,none=>True
 | _,_=>False
variable{κ:Type}
def KV:List (κ×V)->List (κ×Value)->Prop:=Paired λ(p:κ×V) (q:κ×Value)=>p.1=q.1/\RelV p.2 q.2
noncomputable def kV:Key->V
 | .inl i=> .int i
 | .inr x=> .str x
inductive HO where
 | lst (xs:List V)
 | tup (xs:List V)
 | dK (kvs:List (Key×V)) | dT (kvs:List (List Key×V))
 | set (S:Int->Bool) (n:Nat)
 | ins (C dx:Addr) (fs:List (Str×V))
 | own (x:Addr)
 | xd (fs:List (Str×V))
 | met (f x:Addr)
 | rng (lo hi:Int)
 | frz (o:Obj) (u:HO)
 | tbl (ps:Array Value)
 | ext (φ:Heap->Prop)
abbrev Hp:=Addr->Option HO
noncomputable def upd(H:Hp)(a:Addr)(o:HO):Hp:=λb=>if b=a then some o else H b
variable{H:Hp}{a:Addr}{o:HO}
theorem zj:upd H a o a=some o:=by unfold upd;rw [wU rfl]
variable{b:Addr}
theorem zn(h:b≠a):upd H a o b=H b:=by unfold upd;rw [wM h]
theorem z5u{u:HO}(h:H a=some o)(h':H b=some u)(d:o≠u):a≠b:=by
 intro e;subst e;rw [h]at h';exact d (Option.some.inj h')
theorem zy(h:H a=some o)(h':H b=none):a≠b:=by
 intro e;subst e;rw [h]at h';cases h'
section
variable(P:Program)(w:World)
def jj(H:Hp)(h:Heap)(a:Addr):HO->Prop
 | .lst xs=>xs.length<=sizeLine/\∃(a6:List Value) (n:Nat),zP xs a6/\h.get? a=some {cls:= .type "list",data:= .seq a6.toArray n}
 | .tup xs=>xs.length<=sizeLine/\∃a6:List Value,zP xs a6/\IsTup h a a6.toArray
 | .dK kvs=>kvs.length<=sizeLine/\(a == sysModules)=false/\∃vs,KV kvs vs/\h.DictOf (jC P w) a vs
 | .dT kvs=>kvs.length<=sizeLine/\(a == sysModules)=false/\∃xs:List (List Key×Addr×Value),
   Paired (λ(p:List Key×V) (q:List Key×Addr×Value)=>p.1=q.1/\H q.2.1=some (.tup (p.1.map kV))/\RelV p.2 q.2.2) kvs xs/\
   ∃o es ep,h.get? a=some o/\o.ExactDict/\o.data= .dict es ep/\es.toList=xs.map (entryOfKey (tupleKind (jC P w)))/\(xs.map (·.1)).Nodup
 | .set S n=>h.SetOf (intKind P w) a S n
 | .ins C dx fs=>H dx=some (.own a)/\fs.length<=1000/\dx≠a/\h.get? a=some (PySem.W.instObj C dx)/\
   ∃mA,h.Ns1 dx mA/\(∀f,z29 (fs.lookup f) (mA f))/\PySem.Within mA (fs.map (·.1))
 | .own _=>∃o,h.get? a=some o
 | .xd fs=>∃mA,h.Ns1 a mA/\∀f,z29 (fs.lookup f) (mA f)
 | .rng lo hi=>∃t u v,h.get? a=some {cls:= .type "range",data:= .fields #[.int lo t,.int hi u,.int 1 v]}
 | .frz o u=>h.get? a=some o/\jj H h a u
 | .tbl ps=>h.get? a=some {cls:= .none,data:= .fields ps}
 | .met f x=>h.get? a=some (PySem.W.methodObj (.ref f) (.ref x))
 | .ext φ=>φ h/\(∃o,h.get? a=some o)/\∀h1 h2:Heap,φ h1->(∀o,h1.get? a=some o->h2.get? a=some o)->φ h2
def HOk(H:Hp)(h:Heap):Prop:=∀a o,H a=some o->jj P w H h a o
end
variable{P:Program}{w:World}{H':Hp}{h h':Heap}
theorem jj.lt(x:jj P w H h a o):a < h.objs.size:=by
 cases o with
 | lst xs=>obtain⟨_,_,_,_,e⟩:=x;exact wL e
 | tup xs=>obtain⟨_,_,_,p⟩:=x;exact p.lt
 | dK kvs=>obtain⟨_,_,_,_,o,_,_,e,_⟩:=x;exact wL e
 | dT kvs=>obtain⟨_,_,_,_,o,_,_,e,_⟩:=x;exact wL e
 | set S n=>obtain⟨o,_,_,_,e,_⟩:=x;exact wL e
 | ins C dx fs=>obtain⟨_,_,_,e,_⟩:=x;exact wL e
 | own y=>obtain⟨_,e⟩:=x;exact wL e
 | xd fs=>obtain⟨_,⟨_,_,_,e,_⟩,_⟩:=x;exact wL e
 | rng lo hi=>obtain⟨_,_,_,e⟩:=x;exact wL e
 | frz b u=>obtain⟨e,_⟩:=x;exact wL e
 | tbl ps=>exact wL (show h.get? a=some _ from x)
 | met f y=>exact wL (show h.get? a=some _ from x)
 | ext φ=>obtain⟨_,⟨_,e⟩,_⟩:=x;exact wL e
def Paired.mapP{α β:Type}{F G:α->β->Prop}:∀{l₁:List α} {l₂:List β},Paired F l₁ l₂->(∀a b,F a b->G a b)->Paired G l₁ l₂
 | _,_,.nil,_=> .nil
 | _,_,.cons r t,f=> .cons (f _ _ r) (Paired.mapP t f)
theorem jj.stay(x:jj P w H h a o)(k:∀b u,(b=a\/H b=some (.own a))->h.get? b=some u->h'.get? b=some u)
  (s:∀b,H b=some (.own a)->H' b=some (.own a)) (ht:∀b xs,H b=some (.tup xs)->H' b=some (.tup xs)):jj P w H' h' a o:=by
 induction o with
 | lst xs=>obtain⟨z,a6,n,r,e⟩:=x;exact⟨z,a6,n,r,k _ _ (.inl rfl) e⟩
 | tup xs=>obtain⟨z,a6,r,i,e,c⟩:=x;exact⟨z,a6,r,i,k _ _ (.inl rfl) e,c⟩
 | dK kvs=>obtain⟨z,y,vs,r,i,es,ep,e,c⟩:=x;exact⟨z,y,vs,r,i,es,ep,k _ _ (.inl rfl) e,c⟩
 | dT kvs=>
  obtain⟨z,y,xs,r,i,es,ep,e,c⟩:=x;exact⟨z,y,xs,Paired.mapP r λp q z=>⟨z.1,ht _ _ z.2.1,z.2.2⟩,i,es,ep,k _ _ (.inl rfl) e,c⟩
 | set S n=>obtain⟨i,es,ep,t,e,c⟩:=x;exact⟨i,es,ep,t,k _ _ (.inl rfl) e,c⟩
 | ins C dx fs=>
  obtain⟨d,z,ne,e,mA,⟨od,es,ep,j,c⟩,r⟩:=x;exact⟨s _ d,z,ne,k _ _ (.inl rfl) e,mA,⟨od,es,ep,k _ _ (.inr d) j,c⟩,r⟩
 | own y=>obtain⟨i,e⟩:=x;exact⟨i,k _ _ (.inl rfl) e⟩
 | xd fs=>obtain⟨mA,⟨od,es,ep,e,c⟩,r⟩:=x;exact⟨mA,⟨od,es,ep,k _ _ (.inl rfl) e,c⟩,r⟩
 | rng lo hi=>obtain⟨t,u,v,e⟩:=x;exact⟨t,u,v,k _ _ (.inl rfl) e⟩
 | frz i u l=>obtain⟨e,q⟩:=x;exact⟨k _ _ (.inl rfl) e,l q⟩
 | tbl ps=>
  have e:h.get? a=some {cls:= .none,data:= .fields ps}:=x
  show h'.get? a=some {cls:= .none,data:= .fields ps}
  exact k a _ (.inl rfl) e
 | met f y=>
  have e:h.get? a=some (PySem.W.methodObj (.ref f) (.ref y)):=x
  show h'.get? a=some (PySem.W.methodObj (.ref f) (.ref y))
  exact k a _ (.inl rfl) e
 | ext φ=>obtain⟨p,⟨o,e⟩,st⟩:=x;exact⟨st _ _ p λo q=>k _ _ (.inl rfl) q,⟨o,k _ _ (.inl rfl) e⟩,st⟩
def HOk.lt(x:HOk P w H h)(e:H a=some o):a < h.objs.size:=(x a o e).lt
theorem HOk.fresh(x:HOk P w H h)(e:h.objs.size<=a):H a=none:=by
 cases q:H a with
 | none=>rfl
 | some u=>exact absurd (wT (x.lt q) e) (QO _)
def HOk.kept(x:HOk P w H h)(k:∀b u,h.get? b=some u->h'.get? b=some u):HOk P w H h':=λa o e=>
 (x a o e).stay (λb u _ q=>k b u q) (λ_ q=>q) λ_ _ q=>q
theorem HOk.laid(x:HOk P w H h)(k:∀b u,h.get? b=some u->h'.get? b=some u)(hp:h.objs.size<=a)(new:jj P w (upd H a o) h' a o):HOk P w (upd H a o) h':=λb u e=>by
 have hn:=x.fresh hp;by_cases hb:b=a
 ·subst hb;rw [zj]at e;cases e;exact new
 ·rw [zn hb]at e;exact(x b u e).stay (λc v _ q=>k c v q) (λc q=>by rw [zn (zy q hn)];exact q) λc xs q=>by rw [zn (zy q hn)];exact q
def Rd(H:Hp)(a:Addr)(u:HO):Prop:=H a=some u\/∃o,H a=some (.frz o u)
def Rd.of{u:HO}(h:H a=some u):Rd H a u:= .inl h
theorem Rd.ok{u:HO}(r:Rd H a u)(x:HOk P w H h):jj P w H h a u:=by
 rcases r with r | ⟨o,r⟩
 ·exact x a u r
 ·obtain⟨_,q⟩:=x a _ r;exact q
def Mut:Option HO->Prop
 | some (.lst _)=>True
 | some (.dK _)=>True
 | some (.dT _)=>True
 | some (.set _ _)=>True
 | some (.ins _ _ _)=>True
 | some (.ext _)=>True
 | _=>False
section
variable{x e:Addr}{o':HO}
theorem HOk.write(ok:HOk P w H h)(a:Mut (H x))(d:e=x\/H e=some (.own x))(k:∀b u,b≠e->h.get? b=some u->h'.get? b=some u)(l:∃u,h'.get? e=some u)
  (new:jj P w (upd H x o') h' x o'):HOk P w (upd H x o') h':=λb u q=>by
 have f:∀c y,H c=some (.own y)->c≠x:=λc y r z=>by subst z;rw [r]at a;exact a
 have i:∀c xs,H c=some (.tup xs)->c≠x:=λc xs r z=>by subst z;rw [r]at a;exact a
 by_cases hb:b=x
 ·subst hb;rw [zj]at q;cases q;exact new
 ·rw [zn hb]at q;by_cases hbe:b=e
  ·have q':H b=some (.own x):=by
    rcases d with z | z
    ·exact absurd (hbe.trans z) hb
    ·rw [hbe];exact z
   rw [q]at q';cases q';obtain⟨v,j⟩:=l;exact⟨v,by rw [hbe];exact j⟩
  ·refine(ok b u q).stay (λc v hc r=>k c v ?_ r) (λc r=>by rw [zn (f c b r)];exact r) λc xs r=>by rw [zn (i c xs r)];exact r
   rcases hc with rfl | hc
   ·exact hbe
   ·rintro rfl;rcases d with z | z
    ·exact f c b hc z
    ·rw [hc]at z;cases z;exact hb rfl
end
structure Un(fs ex:List Addr)(H H':Hp)(h h':Heap):Prop where
 keep:∀b o,h.get? b=some o->H b=none->b∉fs->b∉ex->h'.get? b=some o
 slot:∀b o,h.get? b=some o->H b=none->b∈fs->b∉ex->∃sl,h'.get? b=some {o with slots:=sl}
 free:∀b o,h.get? b=some o->H b=none->b∉ex->H' b=none
 there:∀b o,h.get? b=some o->b∉ex->∃o',h'.get? b=some o'
 tups:∀b xs,H b=some (.tup xs)->H' b=some (.tup xs)
 frzs:∀b o u,H b=some (.frz o u)->H' b=some (.frz o u)
 tbls:∀b ps,H b=some (.tbl ps)->∃more,H' b=some (.tbl (ps ++ more))
section
variable{fs eS ex Cf:List Addr}{H1 H2:Hp}{h1 h2:Heap}{x e:Addr}
theorem Un.any(u:Un fs ex H H1 h h1){a:Obj}(q:h.get? b=some a)(n:H b=none)(c:b∉ex):∃sl,h1.get? b=some {a with slots:=sl}:=by
 by_cases hb:b∈fs
 ·exact u.slot b a q n hb c
 ·exact⟨a.slots,u.keep b a q n hb c⟩
theorem Un.kept(k:∀b u,h.get? b=some u->h'.get? b=some u):Un fs ex H H h h':=
 ⟨λb a q _ _ _=>k b a q,λb a q _ _ _=>⟨a.slots,k b a q⟩,λ_ _ _ n _=>n,λb a q _=>⟨a,k b a q⟩,λ_ _ q=>q,λ_ _ _ q=>q,λ_ ps q=>⟨#[],by rw [q];simp⟩⟩
def Un.refl:Un fs ex H H h h:=Un.kept λ_ _ q=>q
theorem Un.laid(k:∀b u,h.get? b=some u->h'.get? b=some u)(hp:h.objs.size<=a)(hn:H a=none):Un fs ex H (upd H a o) h h' where
 keep:=λb u q _ _ _=>k b u q
 slot:=λb u q _ _ _=>⟨u.slots,k b u q⟩
 free:=λb u q n _=>by rw [zn (q5 (wT (wL q) hp))];exact n
 there:=λb u q _=>⟨u,k b u q⟩
 tups:=λb xs q=>by rw [zn (zy q hn)];exact q
 frzs:=λb u xs q=>by rw [zn (zy q hn)];exact q
 tbls:=λb ps q=>⟨#[],by rw [zn (zy q hn),q];simp⟩
theorem Un.write(a:Mut (H x))(i:e=x\/H e=some (.own x))(k:∀b u,b≠e->h.get? b=some u->h'.get? b=some u)(f:∃u,h'.get? e=some u):Un fs ex H (upd H x o) h h':=by
 have c:∀b,H b=none->b≠x:=λb n z=>by subst z;rw [n]at a;exact a
 have d:∀b,H b=none->b≠e:=λb n z=>by
  subst z;rcases i with r | r
  ·exact c b n r
  ·rw [n]at r;cases r
 have hm:∀b u,H b=some u->¬Mut (some u)->b≠x:=λb u q nm z=>by subst z;rw [q]at a;exact nm a
 refine⟨λb u q n _ _=>k b u (d b n) q,λb u q n _ _=>⟨u.slots,k b u (d b n) q⟩,λb u q n _=>by rw [zn (c b n)];exact n,λb u q _=> ?_,
  λb xs q=>by rw [zn (hm b _ q λz=>z)];exact q,λb u xs q=>by rw [zn (hm b _ q λz=>z)];exact q,λb ps q=>⟨#[],by rw [zn (hm b _ q λz=>z),q];simp⟩⟩
 by_cases hbe:b=e
 ·subst hbe;exact f
 ·exact⟨u,k b u hbe q⟩
end
noncomputable def trk(h:Heap)(H:Hp):List Addr:=(List.range h.objs.size).filter λa=>(H a).isSome
noncomputable def z4H(h:Heap)(H:Hp):Heap:=PySem.W.hideAll h (trk h H)
def z9p(h:Heap)(H:Hp):(z4H h H).objs.size=h.objs.size:=PySem.W.hideAll_size _ _
theorem zag{o:Obj}(e:h.get? b=some o)(n:H b=none):(z4H h H).get? b=some o:=
 PySem.W.hideAll_get _ e λhm=>by
  have q:(H b).isSome=true:=(Qp.mp hm).2;rw [n]at q;simp at q
theorem zc4{o:Obj}(e:(z4H h H).get? b=some o):h.get? b=some o/\H b=none:=by
 have a:h.get? b=some o:=PySem.W.of_hideAll (trk h H) e;refine⟨a,?_⟩;cases q:H b with
 | none=>rfl
 | some x=>
  have hm:b∈trk h H:=Qp.mpr ⟨Qf.mpr (wL a),by simp [q]⟩;have z:(z4H h H).get? b=none:=PySem.W.hideAll_none (trk h H) hm;rw [z]at e;cases e
structure Mod(K:W.Frag)(mg:Str->Option Value)(base:Heap):Prop where
 kin:K.In base
 glob:base.Ns mainGlobals mg
 blt:∃mb,base.Ns builtinsNs mb/\∀x:Str,x≠"__name__"->mb x=bootBuiltins x
 nolimit:base.NoLimit
structure Cx where
 prog:Program
 w:World
 K:W.Frag
 mg:Str->Option Value
 base:Heap
 A:Around
 N:List Str
 s₀:Shared
 H₀:Hp
 env:Env
 outer:List Env
 stack:List Env
 ex:List Addr
 fn:Str->Bool
 calm:Bool
 pn:List (Addr×Obj)
 xe:Value->Shared->Prop
noncomputable def frs(l:List Env):List Addr:=l.filterMap (·.frame)
noncomputable abbrev Cx.fs(X:Cx):List Addr:=frs X.outer
def Vis(sc:Scope)(x:Str):Prop:=sc.names.lookup x=some .local\/sc.names.lookup x=some .cell\/sc.names.lookup x=some .free
def Loc(sc:Scope)(x:Str):Prop:=sc.names.lookup x=some .local\/sc.names.lookup x=some .cell
def Look(env:Env)(h:Heap)(m:Str->Option Value)(x:Str)(u:Value):Prop:=
 (env.kindOf x=some .local/\m x=some u)\/((env.kindOf x=some .cell\/env.kindOf x=some .free)/\∃c,env.cells.lookup x=some c/\h.IsCell c (some u))
structure Cx.Ok(X:Cx):Prop where
 mod:Mod X.K X.mg X.base
 kind:X.env.scope.kind= .function
 glob:X.env.globals=mainGlobals
 blt:X.env.builtins=builtinsNs
 above:X.s₀.heap.objs.size<=X.env.locals
 inj:∀x y c,X.env.cells.lookup x=some c->X.env.cells.lookup y=some c->x=y
 has:∀x,(X.env.kindOf x=some .cell\/X.env.kindOf x=some .free)->∃c,X.env.cells.lookup x=some c
 cab:∀x c,X.fn x=true->X.env.cells.lookup x=some c->X.s₀.heap.objs.size<=c
 hd:X.calm=true->X.A.handled=none
 frames:X.A.frames=some X.stack
 stk:X.stack=X.outer\/(X.stack=X.env :: X.outer/\X.env.frame=some X.env.locals)
 exf:∀b∈X.ex,b≠X.env.locals/\∀x c,X.env.cells.lookup x=some c->c≠b
 bs:∀b o,X.base.get? b=some o->X.s₀.heap.get? b=some o/\X.H₀ b=none
 bsz:X.base.objs.size<=X.s₀.heap.objs.size
 noex:∀b o,X.base.get? b=some o->b∉X.ex
 exfs:∀b∈X.ex,b∉X.fs
 funs:X.s₀.heap.FunFrames X.base X.outer
 frf:∀b∈X.fs,X.H₀ b=none
structure Inv(X:Cx)(pins:List (Addr×Obj))(σ:List (Option V))(H:Hp)(s:Shared):Prop where
 ok:X.Ok
 os:s.os=X.s₀.os
 bare:AllBare s.gens
 base:Un X.fs X.ex X.H₀ H X.s₀.heap s.heap
 loc:∃m,s.heap.Ns X.env.locals m/\∀(i:Nat) (x:Str) (v:V),X.N[i]? =some x->σ[i]? =some (some v)->Vis X.env.scope x->∃u,RelV v u/\Look X.env s.heap m x u
 cell:∀x c,X.env.cells.lookup x=some c->∃v,s.heap.IsCell c v
 free:H X.env.locals=none
 freeC:∀x c,X.env.cells.lookup x=some c->H c=none
 pin:∀p∈X.pn ++ pins,s.heap.get? p.1=some p.2/\H p.1=none/\p.1≠X.env.locals/\p.1∉X.fs/\∀v,p.2.data≠ .cell v
 hok:HOk X.prog X.w H s.heap
 len:σ.length=X.N.length
variable{x:Str}{X:Cx}{pins:List (Addr×Obj)}{s s':Shared}{g':Array GenState}{t' i:Nat}{d':Drawn}{ch:List Addr}{it:Addr}{N:List Str}{M:Model}{A:Around}{E:Value->Shared->Prop}
section
variable{σ:List (Option V)}
theorem Cx.Ok.nofr(ok:X.Ok){o:Obj}(e:X.base.get? b=some o):b∉X.fs:=λa=>by
 have:=(ok.funs.mem a).1;rw [e]at this;cases this
def Inv.bs(I:Inv X pins σ H s):∀b o,X.base.get? b=some o->s.heap.get? b=some o/\H b=none:=λb o e=>
 ⟨I.base.keep b o (I.ok.bs b o e).1 (I.ok.bs b o e).2 (I.ok.nofr e) (I.ok.noex b o e),I.base.free b o (I.ok.bs b o e).1 (I.ok.bs b o e).2 (I.ok.noex b o e)⟩
def Inv.bk(I:Inv X pins σ H s):∀b o,X.base.get? b=some o->s.heap.get? b=some o:=λb o e=>(I.bs b o e).1
def Inv.mod(I:Inv X pins σ H s):Mod X.K X.mg X.base:=I.ok.mod
def Inv.kIn(I:Inv X pins σ H s):X.K.In s.heap:=I.ok.mod.kin.keeps I.bk
def Inv.lt(I:Inv X pins σ H s):X.env.locals < s.heap.objs.size:=let ⟨_,hn,_⟩:=I.loc;hn.lt
theorem Inv.sz(I:Inv X pins σ H s):X.s₀.heap.objs.size<=s.heap.objs.size:=wV I.ok.above (w1t I.lt)
theorem Inv.nofs(I:Inv X pins σ H s)(h:s.heap.objs.size<=a):a∉X.fs:=λc=>by
 obtain⟨_,o,b,_⟩:=I.ok.funs.mem c;exact absurd (wT (wL b) (wV I.sz h)) (QO _)
theorem Inv.cne(I:Inv X pins σ H s):∀x c,X.env.cells.lookup x=some c->c≠X.env.locals:=λx c e z=>by
 obtain⟨v,o,a,hd⟩:=I.cell x c e;obtain⟨m,⟨o',es,ep,d,b,_⟩,_⟩:=I.loc;rw [z,d]at a;cases a;rw [b]at hd;cases hd
theorem Inv.funs(I:Inv X pins σ H s):s.heap.FunFrames X.base X.outer:=by
 have all:∀(l:List Env),(∀b∈frs l,b∈X.fs)->X.s₀.heap.FunFrames X.base l->s.heap.FunFrames X.base l:=by
  intro l
  induction l with
  | nil=>intro _ _;trivial
  | cons env r h=>
   intro hs hl;obtain⟨f,⟨L,o,c,hn,i,hd⟩,hr⟩:=hl;have d:L∈X.fs:=hs L (by unfold frs;rw [List.filterMap_cons,c];exact qE);obtain⟨sl,e⟩:=I.base.slot L o i (I.ok.frf L d) d λz=>I.ok.exfs L z d
   exact⟨f,⟨L,_,c,hn,e,hd⟩,h (λb a=>hs b (by unfold frs;rw [List.filterMap_cons,c];exact wY _ a)) hr⟩
 exact all X.outer (λ_ a=>a) I.ok.funs
theorem Inv.stack(I:Inv X pins σ H s):s.heap.FunFrames X.base X.stack:=by
 rcases I.ok.stk with e | ⟨e,a⟩
 ·rw [e];exact I.funs
 ·rw [e];obtain⟨m,hn,_⟩:=I.loc;refine .cons (by rw [I.ok.kind];decide) a hn ?_ I.funs;exact Heap.get?_none_of_le (wV I.ok.bsz I.ok.above)
theorem Inv.stkSub(I:Inv X pins σ H s):∀b∈frs X.stack,b∈X.env.locals :: X.fs:=λb a=>by
 rcases I.ok.stk with e | ⟨e,c⟩
 ·rw [e]at a;exact wY _ a
 ·rw [e]at a;unfold frs at a;rw [List.filterMap_cons,c]at a;exact a
theorem Inv.stkFree(I:Inv X pins σ H s):∀b∈frs X.stack,H b=none:=λb hb=>by
 rcases wE.mp (I.stkSub b hb)with e | hb
 ·rw [e];exact I.free
 ·obtain⟨_,o,a,_⟩:=I.ok.funs.mem hb;exact I.base.free b o a (I.ok.frf b hb) λz=>I.ok.exfs b z hb
theorem Inv.step(I:Inv X pins σ H s)
  (y:∀b∈ch,(b∈X.ex\/X.s₀.heap.objs.size<=b)/\b≠X.env.locals/\(∀x c,X.env.cells.lookup x=some c->c≠b)/\∀p∈X.pn ++ pins,p.1≠b)
  (keep:∀b o,b≠X.env.locals->b∉X.fs->b∉ch->s.heap.get? b=some o->H b=none->h'.get? b=some o)
  (slot:∀b o,b≠X.env.locals->b∈X.fs->b∉ch->s.heap.get? b=some o->H b=none->∃sl,h'.get? b=some {o with slots:=sl}) (free:∀b o,b∉ch->s.heap.get? b=some o->H b=none->H' b=none)
  (there:∀b o,b∉ch->s.heap.get? b=some o->∃o',h'.get? b=some o')
  (tups:∀b xs,H b=some (.tup xs)->H' b=some (.tup xs)) (frzs:∀b o u,H b=some (.frz o u)->H' b=some (.frz o u)) (tbls:∀b ps,H b=some (.tbl ps)->∃more,H' b=some (.tbl (ps ++ more)))
  (ns:∀m,s.heap.Ns X.env.locals m->h'.Ns X.env.locals m) (hok:HOk X.prog X.w H' h') (F:AllBare g'):
  Inv X pins σ H' {s with heap:=h',gens:=g',drawn:=d',toks:=t'}:=by
 have C:∀b o,X.s₀.heap.get? b=some o->b≠X.env.locals:=λb o e=>q5 (wT (wL e) I.ok.above)
 have B:∀b o,X.s₀.heap.get? b=some o->b∉X.ex->b∉ch:=λb o e a h=>by
  rcases(y b h).1 with z | z
  ·exact a z
  ·exact absurd (wT (wL e) z) (QO _)
 have cellK:∀x c,X.env.cells.lookup x=some c->∀v,s.heap.IsCell c v->h'.IsCell c v:=λx c e v ⟨o,j,hd⟩=>by
  have A:c∉ch:=λz=>(y c z).2.2.1 x c e rfl
  by_cases hc:c∈X.fs
  ·obtain⟨sl,q⟩:=slot c o (I.cne x c e) hc A j (I.freeC x c e);exact⟨_,q,hd⟩
  ·exact⟨o,keep c o (I.cne x c e) hc A j (I.freeC x c e),hd⟩
 refine⟨I.ok,I.os,F,⟨λb o e n h a=> ?_,λb o e n h a=> ?_,λb o e n a=> ?_,λb o e a=> ?_,λb xs e=>tups b xs (I.base.tups b xs e),λb o xs e=>frzs b o xs (I.base.frzs b o xs e),λb ps e=> ?_⟩,?_,λx c e=> ?_,?_,λx c e=> ?_,λp hp=> ?_,hok,I.len⟩
 ·exact keep b o (C b o e) h (B b o e a) (I.base.keep b o e n h a) (I.base.free b o e n a)
 ·obtain⟨sl,f⟩:=I.base.slot b o e n h a;obtain⟨E,t⟩:=slot b _ (C b o e) h (B b o e a) f (I.base.free b o e n a);exact⟨E,t⟩
 ·obtain⟨o',f⟩:=I.base.there b o e a;exact free b o' (B b o e a) f (I.base.free b o e n a)
 ·obtain⟨o',f⟩:=I.base.there b o e a;exact there b o' (B b o e a) f
 ·obtain⟨D,f⟩:=I.base.tbls b ps e;obtain⟨G,t⟩:=tbls b _ f;exact⟨D ++ G,by rw [t,Array.append_assoc]⟩
 ·obtain⟨m,hn,hl⟩:=I.loc;refine⟨m,ns m hn,λi x v f t J=> ?_⟩;obtain⟨u,r,l⟩:=hl i x v f t J;refine⟨u,r,?_⟩;rcases l with l | ⟨k,c,e,z⟩
  ·exact .inl l
  ·exact .inr ⟨k,c,e,cellK x c e _ z⟩
 ·obtain⟨v,z⟩:=I.cell x c e;exact⟨v,cellK x c e v z⟩
 ·obtain⟨m,⟨o,_,_,j,_⟩,_⟩:=I.loc;exact free _ o (λz=>(y _ z).2.1 rfl) j I.free
 ·obtain⟨v,o,j,hd⟩:=I.cell x c e;exact free c o (λz=>(y c z).2.2.1 x c e rfl) j (I.freeC x c e)
 ·obtain⟨e,n,ne,nf,d⟩:=I.pin p hp;have A:p.1∉ch:=λz=>(y p.1 z).2.2.2 p hp rfl
  exact⟨keep p.1 p.2 ne nf A e n,free p.1 p.2 A e n,ne,nf,d⟩
theorem Inv.un(I:Inv X pins σ H s)(u:Un X.fs [] H H' s.heap h')(hok:HOk X.prog X.w H' h'):Inv X pins σ H' {s with heap:=h',toks:=t'}:=by
 obtain⟨m,⟨o,es,ep,c,r⟩,_⟩:=id I.loc;obtain⟨sl,h⟩:=u.any c I.free (by simp);exact I.step (g':=s.gens) (d':=s.drawn) (ch:= []) (λ_ z=>nomatch z) (λb o _ a _ e n=>u.keep b o e n a (by simp)) (λb o _ a _ e n=>u.slot b o e n a (by simp)) (λb o _ e n=>u.free b o e n (by simp)) (λb o _ e=>u.there b o e (by simp)) u.tups u.frzs u.tbls (λj hm=>by
  obtain⟨o',f,i,d,r'⟩:=hm;rw [c]at d;cases d;exact⟨_,f,i,h,r'⟩) hok I.bare
theorem Inv.call(I:Inv X pins σ H s)(u:Un (frs X.stack) ch H H' s.heap h')(hok:HOk X.prog X.w H' h')(l:AllBare g')
  (d:∀b∈ch,(b∈X.ex\/X.s₀.heap.objs.size<=b)/\b≠X.env.locals/\(∀x c,X.env.cells.lookup x=some c->c≠b)/\∀p∈X.pn ++ pins,p.1≠b):
  Inv X pins σ H' {s with heap:=h',gens:=g',drawn:=d',toks:=t'}:=by
 obtain⟨m,⟨o,es,ep,f,r⟩,_⟩:=id I.loc;obtain⟨sl,a⟩:=u.any f I.free λz=>(d _ z).2.1 rfl
 exact I.step (ch:=ch) d (λb o a i hc e n=>u.keep b o e n (λz=>(wE.mp (I.stkSub b z)).elim a i) hc) (λb o _ _ hc e n=>u.any e n hc) (λb o hc e n=>u.free b o e n hc) (λb o hc e=>u.there b o e hc) u.tups u.frzs u.tbls (λt hm=>by
  obtain⟨o',j,q,h,r'⟩:=hm;rw [f]at h;cases h;exact⟨_,j,q,a,r'⟩) hok l
theorem Inv.turned(I:Inv X pins σ H s)(k:∀b o,b≠it->s.heap.get? b=some o->h'.get? b=some o)(hn:H it=none)(d:it≠X.env.locals)
  (h1:it∈X.ex\/X.s₀.heap.objs.size<=it) (h2:∀x c,X.env.cells.lookup x=some c->c≠it) (i:∀p∈X.pn ++ pins,p.1≠it):Inv X pins σ H {s with heap:=h',toks:=t'}:=by
 have a:∀b u,H b=some u->b≠it:=λb u e z=>by rw [z,hn]at e;cases e
 refine I.step (g':=s.gens) (d':=s.drawn) (ch:= [it]) (λb f=> ?_) (λb o _ _ hc e _=>k b o (λz=>hc (by simp [z])) e) (λb o _ _ hc e _=>⟨o.slots,k b o (λz=>hc (by simp [z])) e⟩) (λ_ _ _ _ n=>n)
  (λb o hc e=>⟨o,k b o (λz=>hc (by simp [z])) e⟩) (λ_ _ e=>e) (λ_ _ _ e=>e) (λb ps e=>⟨#[],by rw [e];simp⟩) (λm hm=> ?_) (λb u e=> ?_) I.bare
 ·have e:b=it:=by simpa using f
  subst e;exact⟨h1,d,h2,i⟩
 ·obtain⟨o,es,ep,h,r⟩:=hm;exact⟨o,es,ep,k _ o (w1h d) h,r⟩
 ·refine(I.hok b u e).stay (λc v hc q=>k c v ?_ q) (λ_ q=>q) λ_ _ q=>q
  rcases hc with z | z
  ·rw [z];exact a b u e
  ·exact a c _ z
def Inv.tok(I:Inv X pins σ H s)(t:Nat):Inv X pins σ H {s with toks:=t}:=I.un (h':=s.heap) (t':=t) Un.refl I.hok
def Inv.kept(I:Inv X pins σ H s)(k:∀b u,s.heap.get? b=some u->h'.get? b=some u):Inv X pins σ H {s with heap:=h',toks:=t'}:=I.un (Un.kept k) (I.hok.kept k)
def Inv.laid(I:Inv X pins σ H s)(k:∀b u,s.heap.get? b=some u->h'.get? b=some u)(hp:s.heap.objs.size<=a)(new:jj X.prog X.w (upd H a o) h' a o):
  Inv X pins σ (upd H a o) {s with heap:=h',toks:=t'}:=I.un (Un.laid k hp (I.hok.fresh hp)) (I.hok.laid k hp new)
def Inv.write{x e:Addr}(I:Inv X pins σ H s)(a:Mut (H x))(d:e=x\/H e=some (.own x))(k:∀b u,b≠e->s.heap.get? b=some u->h'.get? b=some u)(c:∃u,h'.get? e=some u)
  (new:jj X.prog X.w (upd H x o) h' x o):Inv X pins σ (upd H x o) {s with heap:=h',toks:=t'}:=I.un (Un.write a d k c) (I.hok.write a d k c new)
def Inv.pins_of{a:List (Addr×Obj)}(I:Inv X pins σ H s)(h:∀p∈a,s.heap.get? p.1=some p.2/\H p.1=none/\p.1≠X.env.locals/\p.1∉X.fs/\∀v,p.2.data≠ .cell v):Inv X a σ H s:=
 ⟨I.ok,I.os,I.bare,I.base,I.loc,I.cell,I.free,I.freeC,λp hp=>(wx.mp hp).elim (λz=>I.pin p (qe _ z)) (h p),I.hok,I.len⟩
theorem z6U(c:N.Nodup){j:Nat}(a:N[i]? =some x)(b:N[j]? =some x):i=j:=by
 obtain⟨h1,d⟩:=we.mp a;obtain⟨h2,e⟩:=we.mp b;exact(List.getElem_inj c).mp (d.trans e.symm)
variable{Q:Unit->Shared->Prop}
theorem z5y{v:V}(I:Inv X pins σ H s)(O:X.N.Nodup)(hi:X.N[i]? =some x)(l:Loc X.env.scope x)(r:RelV v u)
  (h:∀s',Inv X pins (σ.set i (some v)) H s'->(∃a,Heap.SameBut a s.heap s'.heap/\(a=X.env.locals\/X.env.cells.lookup x=some a))->Q () s') (hf:X.fn x=true\/X.env.scope.names.lookup x=some .local:=by first | exact .inl rfl | exact .inr rfl | assumption):wpAny M A (storeName X.env x u) Q E s:=by
 obtain⟨m,hn,hl⟩:=id I.loc;have P:(X.env.scope.kind == .class || (X.env.scope.kind == .module && X.env.locals != X.env.globals))=false:=by rw [I.ok.kind];rfl
 have hiσ:i < σ.length:=by rw [I.len];exact(we.mp hi).1
 have cne:=I.cne;have tracked:∀{a:Addr} {h':Heap},(∃o,s.heap.get? a=some o/\H a=none)->Heap.SameBut a s.heap h'->HOk X.prog X.w H h':=λ{a h'} ha hs b Z e=>by
  obtain⟨_,_,J⟩:=ha;refine(I.hok b Z e).stay (λc C hc q=>(hs.2 c ?_).trans q) (λ_ q=>q) λ_ _ q=>q
  rintro rfl;rcases hc with rfl | hc
  ·rw [J]at e;cases e
  ·rw [J]at hc;cases hc
 rcases l with hk | hk
 ·refine wpAny_storeName_local hk hn (λh' Y hs=> ?_) P;obtain⟨U,_,_,S,_⟩:=id hn;refine h _ ⟨I.ok,I.os,I.bare,⟨λb o e n B l=> ?_,λb o e n B l=> ?_,I.base.free,λb o e l=> ?_,I.base.tups,I.base.frzs,I.base.tbls⟩,⟨_,Y,λj y v' f t F=> ?_⟩,λy c e=> ?_,I.free,I.freeC,λp hp=> ?_,tracked ⟨U,S,I.free⟩ hs,by simpa using I.len⟩ ⟨_,hs,.inl rfl⟩
  ·exact(hs.2 b (q5 (wT (wL e) I.ok.above))).trans (I.base.keep b o e n B l)
  ·obtain⟨sl,f⟩:=I.base.slot b o e n B l;exact⟨sl,(hs.2 b (q5 (wT (wL e) I.ok.above))).trans f⟩
  ·obtain⟨o',f⟩:=I.base.there b o e l;exact⟨o',(hs.2 b (q5 (wT (wL e) I.ok.above))).trans f⟩
  ·by_cases hj:j=i
   ·subst hj;rw [hi]at f;cases f;rw [w0L hiσ]at t;cases t;exact⟨u,r,.inl ⟨hk,by simp⟩⟩
   ·rw [List.getElem?_set_ne (w1h hj)]at t;obtain⟨G,r',q⟩:=hl j y v' f t F;refine⟨G,r',?_⟩;rcases q with⟨k,e⟩ | ⟨k,c,e,z⟩
    ·refine .inl ⟨k,?_⟩;have:y≠x:=λe=>hj (z6U O f (e ▸ hi))
     simp [this,e]
    ·exact .inr ⟨k,c,e,z.sameBut hs (cne y c e)⟩
  ·obtain⟨C,z⟩:=I.cell y c e;exact⟨C,z.sameBut hs (cne y c e)⟩
  ·obtain⟨e,n,ne,nf,d⟩:=I.pin p hp;exact⟨(hs.2 p.1 ne).trans e,n,ne,nf,d⟩
 ·have D:X.fn x=true:=by
   rcases hf with z | z
   ·exact z
   ·rw [z]at hk;cases hk
  obtain⟨c,hc⟩:=I.ok.has x (.inl hk);obtain⟨C,z⟩:=I.cell x c hc;refine wpAny_storeName_cell I.ok.kind hk hc z (λh' L hs=> ?_);obtain⟨oc,K,mU⟩:=id z;refine h {s with heap:=h'} ⟨I.ok,I.os,I.bare,⟨λb o e n B l=> ?_,λb o e n B l=> ?_,I.base.free,λb o e l=> ?_,I.base.tups,I.base.frzs,I.base.tbls⟩,⟨m,hn.sameBut hs (w1h (cne x c hc)),λj y v' f t F=> ?_⟩,λy c' e=> ?_,I.free,I.freeC,λp hp=> ?_,tracked ⟨oc,K,I.freeC x c hc⟩ hs,by simpa using I.len⟩ ⟨c,hs,.inr hc⟩
  ·exact(hs.2 b (q5 (wT (wL e) (I.ok.cab x c D hc)))).trans (I.base.keep b o e n B l)
  ·obtain⟨sl,f⟩:=I.base.slot b o e n B l;exact⟨sl,(hs.2 b (q5 (wT (wL e) (I.ok.cab x c D hc)))).trans f⟩
  ·obtain⟨o',f⟩:=I.base.there b o e l;exact⟨o',(hs.2 b (q5 (wT (wL e) (I.ok.cab x c D hc)))).trans f⟩
  ·by_cases hj:j=i
   ·subst hj;rw [hi]at f;cases f;rw [w0L hiσ]at t;cases t;exact⟨u,r,.inr ⟨.inl hk,c,hc,L⟩⟩
   ·rw [List.getElem?_set_ne (w1h hj)]at t;obtain⟨G,r',q⟩:=hl j y v' f t F;refine⟨G,r',?_⟩;rcases q with q | ⟨k,c',e,T⟩
    ·exact .inl q
    ·refine .inr ⟨k,c',e,T.sameBut hs ?_⟩;rintro rfl;exact hj (z6U O f (I.ok.inj _ _ _ e hc ▸ hi))
  ·by_cases gq:c'=c
   ·subst gq;exact⟨_,L⟩
   ·obtain⟨w2,R⟩:=I.cell y c' e;exact⟨w2,R.sameBut hs gq⟩
  ·obtain⟨e,n,ne,nf,d⟩:=I.pin p hp;refine⟨(hs.2 p.1 ?_).trans e,n,ne,nf,d⟩;intro q;rw [q,K]at e;have q':oc=p.2:=Option.some.inj e;exact d C (by rw [<-q'];exact mU)
theorem z6V{v:V}(I:Inv X pins σ H s)(a:X.N.Nodup)(hi:X.N[i]? =some x)(d:Loc X.env.scope x)(r:RelV v u)
  (h:∀s',Inv X pins (σ.set i (some v)) H s'->Q () s') (b:X.fn x=true\/X.env.scope.names.lookup x=some .local:=by first | exact .inl rfl | exact .inr rfl | assumption):wpAny M A (storeName X.env x u) Q E s:=
 z5y I a hi d r (λs' c _=>h s' c) b
theorem Inv.call'(I:Inv X pins σ H s)(d:s'.os=s.os)(u:Un (frs X.stack) ch H H' s.heap s'.heap)(hok:HOk X.prog X.w H' s'.heap)(a:AllBare s'.gens)
  (f:∀b∈ch,(b∈X.ex\/X.s₀.heap.objs.size<=b)/\b≠X.env.locals/\(∀x c,X.env.cells.lookup x=some c->c≠b)/\∀p∈X.pn ++ pins,p.1≠b):Inv X pins σ H' s':=by
 obtain⟨h',g',d',t',o'⟩:=s';have e:o'=s.os:=d;subst e;exact I.call (g':=g') (t':=t') (d':=d') u hok a f
end
abbrev XK:=Value->Option Addr->Hp->Prop
abbrev St:=List (Option V)
abbrev VK:=V->Hp->Prop
abbrev TE:=St->Hp->VK->Prop
abbrev TT:=St->Hp->(Bool->Hp->Prop)->Prop
abbrev TA:=St->Hp->(List V->Hp->Prop)->Prop
structure Ends where
 nx:St->Hp->Prop
 rt:VK
 bk:St->Hp->Prop:=λ_ _=>False
 ct:St->Hp->Prop:=λ_ _=>False
abbrev TS:=Ends->St->Hp->Prop
def EP(X:Cx)(pins:List (Addr×Obj))(σ:St)(Q:VK)(u:Value)(s':Shared):Prop:=∃v H',Inv X pins σ H' s'/\RelV v u/\Q v H'
def TP(X:Cx)(pins:List (Addr×Obj))(σ:St)(Q:Bool->Hp->Prop)(b:Bool)(s':Shared):Prop:=∃H',Inv X pins σ H' s'/\Q b H'
def AP(X:Cx)(pins:List (Addr×Obj))(σ:St)(Q:List V->Hp->Prop)(us:List Value)(s':Shared):Prop:=∃vs H',Inv X pins σ H' s'/\zP vs us/\Q vs H'
def SP(X:Cx)(pins:List (Addr×Obj))(D:Ends)(f:Flow)(s':Shared):Prop:=
 match f with
 | .next=>∃σ' H',Inv X pins σ' H' s'/\D.nx σ' H'
 | .brk=>∃σ' H',Inv X pins σ' H' s'/\D.bk σ' H'
 | .cont=>∃σ' H',Inv X pins σ' H' s'/\D.ct σ' H'
 | .ret u=>∃v σ' H',Inv X pins σ' H' s'/\RelV v u/\D.rt v H'
def PE(X:Cx)(e:Expr)(t:TE):Prop:=
 ∀(pins:List (Addr×Obj)) (s:Shared) (σ:St) (H:Hp) (Q:VK),Inv X pins σ H s->t σ H Q->wpAny (model X.prog X.w) X.A (eval e X.env) (EP X pins σ Q) X.xe s
def PT(X:Cx)(e:Expr)(t:TT):Prop:=
 ∀(pins:List (Addr×Obj)) (s:Shared) (σ:St) (H:Hp) (Q:Bool->Hp->Prop),Inv X pins σ H s->t σ H Q->wpAny (model X.prog X.w) X.A (isTrue e X.env (eval e X.env)) (TP X pins σ Q) X.xe s
def PW(X:Cx)(e:Expr)(t:TT):Prop:=
 ∀(whole:Sem Value) (pins:List (Addr×Obj)) (s:Shared) (σ:St) (H:Hp) (Q:Bool->Hp->Prop),Inv X pins σ H s->t σ H Q->wpAny (model X.prog X.w) X.A (isTrue e X.env whole) (TP X pins σ Q) X.xe s
variable{e:Expr}
def PW.pt{t:TT}(h:PW X e t):PT X e t:=h _
def PA(X:Cx)(es:List Expr)(t:TA):Prop:=
 ∀(pos:Pos) (pins:List (Addr×Obj)) (s:Shared) (σ:St) (H:Hp) (Q:List V->Hp->Prop),Inv X pins σ H s->t σ H Q->wpAny (model X.prog X.w) X.A (spliced (backTo pos (starEach es X.env))) (AP X pins σ Q) X.xe s
def PS(X:Cx)(st:Stmt)(t:TS):Prop:=
 ∀(pins:List (Addr×Obj)) (s:Shared) (σ:St) (H:Hp) (D:Ends),Inv X pins σ H s->t D σ H->wpAny (model X.prog X.w) X.A (exec st X.env) (SP X pins D) X.xe s
def PSs(X:Cx)(st:List Stmt)(t:TS):Prop:=
 ∀(pins:List (Addr×Obj)) (s:Shared) (σ:St) (H:Hp) (D:Ends),Inv X pins σ H s->t D σ H->wpAny (model X.prog X.w) X.A (execs st X.env) (SP X pins D) X.xe s
def thn{α:Type}{t:Sem α}{Q b:α->Shared->Prop}(h:wpAny M A t Q E s)(c:∀a s,Q a s->b a s):wpAny M A t b E s:=QK h c λ_ _ x=>x
variable{Q:Value->Shared->Prop}{pos:Pos}{ta:TE}
section
def z6k(i:Nat):TE:=λσ H Q=>∃v,σ[i]? =some (some v)/\Q v H
def tC(v:V):TE:=λ_ H Q=>Q v H
theorem z2p(d:X.N[i]? =some x)(b:Vis X.env.scope x)(hd:(x == ("__debug__":Str))=false:=by decide)(a:(x == ("__classdict__":Str))=false:=by decide):PE X (.Name x pos) (z6k i):=by
 intro pins s σ H Q I h;obtain⟨v,e,h⟩:=h;obtain⟨m,hn,hl⟩:=I.loc;obtain⟨u,r,l⟩:=hl i x v d e b;have fin:EP X pins σ Q u s:=⟨v,H,I,r,h⟩;rcases l with⟨hk,hm⟩ | ⟨hk,c,hc,aG⟩
 ·exact wpAny_Name (wpAny_loadName_local I.ok.kind hk hn hm fin) hd
 ·rcases hk with hk | hk
  ·exact wpAny_Name (wpAny_loadName_cell I.ok.kind hk hc aG fin) hd
  ·exact wpAny_Name (wpAny_loadName_free I.ok.kind hk hc aG fin a) hd
def zb{i j pos}:PE X (.Constant (.int i) j pos) (tC (.int i)):=λ_ _ _ H _ I h=>wpAny_Constant_int ⟨.int i,H,I.tok _,⟨_,rfl⟩,h⟩
def yt{b j pos}:PE X (.Constant (.bool b) j pos) (tC (.bl b)):=λ_ _ _ H _ I h=>Constant_bool ⟨.bl b,H,I,rfl,h⟩
def z2l{j pos}:PE X (.Constant .none j pos) (tC .non):=λ_ _ _ H _ I h=>Constant_none ⟨.non,H,I,rfl,h⟩
def zi{x j pos}:PE X (.Constant (.str x) j pos) (tC (.str x)):=λ_ _ _ H _ I h=>Calls.Constant_str ⟨.str x,H,I.tok _,⟨_,rfl⟩,h⟩
def Gl(X:Cx)(x:Str):Prop:=X.env.kindOf x=some .globalImplicit
theorem z2O{σ:St}(I:Inv X pins σ H s)(a:Gl X x)(hm:X.mg x=some u)(h:Q u s)
  (hd:(x == ("__debug__":Str))=false:=by decide):wpAny (model X.prog X.w) X.A (eval (.Name x pos) X.env) Q E s:=
 Calls.Name_function_global I.ok.kind a (Calls.loadGlobal_global (by rw [I.ok.glob];exact I.mod.glob.keeps I.bk) hm h) hd
theorem z1q{σ:St}(I:Inv X pins σ H s)(a:Gl X x)(hm:X.mg x=none)(b:bootBuiltins x=some u)(h:Q u s)
  (hn:x≠"__name__":=by decide) (hd:(x == ("__debug__":Str))=false:=by decide):wpAny (model X.prog X.w) X.A (eval (.Name x pos) X.env) Q E s:=by
 obtain⟨mb,h1,h2⟩:=I.mod.blt;exact Calls.Name_function_global I.ok.kind a (Calls.loadGlobal_builtin (by rw [I.ok.glob];exact I.mod.glob.keeps I.bk) hm (by rw [I.ok.blt];exact h1.keeps I.bk) ((h2 x hn).trans b) h) hd
theorem zbv{v:V}(a:Gl X x)(hm:X.mg x=some u)(r:RelV v u)(hd:(x == ("__debug__":Str))=false:=by decide):PE X (.Name x pos) (tC v):=
 λ_ _ _ H _ I h=>z2O I a hm ⟨v,H,I,r,h⟩ hd
theorem yn{v:V}(a:Gl X x)(hm:X.mg x=none)(b:bootBuiltins x=some u)(r:RelV v u)(hn:x≠"__name__":=by decide)(hd:(x == ("__debug__":Str))=false:=by decide):PE X (.Name x pos) (tC v):=
 λ_ _ _ H _ I h=>z1q I a hm b ⟨v,H,I,r,h⟩ hn hd
variable{a b:Expr}{tb:TE}
def tB(t:TE):TT:=λσ H Q=>t σ H λx H1=>∃c,x= .bl c/\Q c H1
theorem jq{t:TE}(h:PE X e t)(b:∀whole,isTrue e X.env whole=(do let v<-whole;standAt e.pos;holding [v] (truthy v)):=by intro _;rfl):PT X e (tB t):=by
 intro pins s σ H Q I f;refine isTrue_plain (thn (h pins s σ H _ I f) ?_) (b _);rintro v s1 ⟨x,H1,a,r1,c⟩;obtain⟨d,rfl,q⟩:=c;cases r1;exact w09 ⟨H1,a,q⟩
variable{tA eB:TT}{rest:List Expr}
def zeN(t u:TT):TT:=λσ H Q=>t σ H λc H1=>if c=true then u σ H1 Q else Q false H1
def tOr(t u:TT):TT:=λσ H Q=>t σ H λc H1=>if c=true then Q true H1 else u σ H1 Q
def zeL(t:TT):TT:=λσ H Q=>t σ H λc H1=>Q (!c) H1
theorem kX(ha:PT X a tA):PW X (.BoolOp .And [a] pos) tA:=by
 intro b pins s σ H Q I h;refine isTrue_and (thn (ha pins s σ H Q I h) λc s1 e=> ?_);cases c with
 | true=>exact isTrue_and_nil e
 | false=>exact e
theorem z3S(ha:PT X a tA):PW X (.BoolOp .Or [a] pos) tA:=by
 intro b pins s σ H Q I h;refine isTrue_or (thn (ha pins s σ H Q I h) λc s1 e=> ?_);cases c with
 | false=>exact isTrue_or_nil e
 | true=>exact e
theorem z0d(ha:PT X a tA)(i:PW X (.BoolOp .And (b :: rest) pos) eB):PW X (.BoolOp .And (a :: b :: rest) pos) (zeN tA eB):=by
 intro f pins s σ H Q I h;refine isTrue_and (thn (ha pins s σ H _ I h) ?_);rintro c s1 ⟨H1,d,e⟩;cases c with
 | true=>exact i f pins s1 σ H1 Q d e
 | false=>exact⟨H1,d,e⟩
theorem z5n(ha:PT X a tA)(i:PW X (.BoolOp .Or (b :: rest) pos) eB):PW X (.BoolOp .Or (a :: b :: rest) pos) (tOr tA eB):=by
 intro f pins s σ H Q I h;refine isTrue_or (thn (ha pins s σ H _ I h) ?_);rintro c s1 ⟨H1,d,e⟩;cases c with
 | true=>exact⟨H1,d,e⟩
 | false=>exact i f pins s1 σ H1 Q d e
theorem yF(ha:PT X a tA):PT X (.UnaryOp .Not a pos) (zeL tA):=by
 intro pins s σ H Q I h;exact isTrue_not (ha pins s σ H (λc H1=>Q (!c) H1) I h)
def zdW(ta tb:TE):TE:=λσ H Q=>ta σ H λx H1=>∃c,x= .bl c/\if c=true then tb σ H1 Q else Q (.bl false) H1
def zef(ta:TE):TE:=λσ H Q=>ta σ H λx H1=>∃c,x= .bl c/\Q (.bl (!c)) H1
def zdj{op}{t:TE}(h:PE X a t):PE X (.BoolOp op [a] pos) t:=λpins s σ H Q I b=>BoolOp_one (h pins s σ H Q I b)
theorem zdH(ha:PE X a ta)(f:PE X (.BoolOp .And (b :: rest) pos) tb):PE X (.BoolOp .And (a :: b :: rest) pos) (zdW ta tb):=by
 intro pins s σ H Q I h;refine BoolOp_and (thn (ha pins s σ H _ I h) ?_);rintro v s1 ⟨x,H1,e,r1,d⟩;obtain⟨c,rfl,d⟩:=d;cases r1;refine w09 ?_;cases c with
 | true=>exact f pins s1 σ H1 Q e d
 | false=>exact⟨.bl false,H1,e,rfl,d⟩
theorem z9K(ha:PE X a ta):PE X (.UnaryOp .Not a pos) (zef ta):=by
 intro pins s σ H Q I h;refine UnaryOp_ (thn (ha pins s σ H _ I h) ?_);rintro v s1 ⟨x,H1,d,r1,b⟩;obtain⟨c,rfl,b⟩:=b;cases r1;exact not_of (w09 ⟨.bl (!c),H1,d,rfl,b⟩)
end
def SqL(K:W.Frag)(H:Hp)(a:Addr)(xs:List V):Prop:=
 Rd H a (.lst xs)\/
  ∃(o:Obj) (a6:Array Value) (n:Nat),K.lookup a=some o/\o.cls= .type "list"/\o.dict=none/\o.data= .seq a6 n/\a6.size<=sizeLine/\zP xs a6.toList
def SqT(K:W.Frag)(H:Hp)(a:Addr)(xs:List V):Prop:=
 Rd H a (.tup xs)\/
  ∃(o:Obj) (a6:Array Value) (n:Nat),K.lookup a=some o/\o.cls= .type "tuple"/\o.data= .seq a6 n/\a6.size<=sizeLine/\zP xs a6.toList
noncomputable def zeU:Value->Option V
 | .none=>some .non
 | .bool b=>some (.bl b)
 | .int i _=>some (.int i)
 | .str x _=>some (.str x)
 | .bytes b _=>some (.byt b)
 | .float b _=>some (.flt b)
 | .ref a=>some (.ref a)
 | .type n=>some (.ty n)
 | _=>none
theorem RelV.abs{x:V}(r:RelV x u):zeU u=some x:=by
 cases x with
 | non=>cases r;rfl
 | bl _=>cases r;rfl
 | int _=>obtain⟨t,rfl⟩:=r;rfl
 | str _=>obtain⟨t,rfl⟩:=r;rfl
 | byt _=>obtain⟨t,rfl⟩:=r;rfl
 | flt _=>obtain⟨t,rfl⟩:=r;rfl
 | ref _=>cases r;rfl
 | ty _=>cases r;rfl
variable{y:V}
theorem RelV.inj{x:V}(r:RelV x u)(q:RelV y u):x=y:=Option.some.inj (r.abs.symm.trans q.abs)
theorem zP.inj:∀{xs ys:List V} {us:List Value},zP xs us->zP ys us->xs=ys
 | _,_,_,.nil,.nil=>rfl
 | _,_,_,.cons r t,.cons r' t'=>by rw [r.inj r',zP.inj t t']
section
variable{σ:St}{ys:List V}
def SqL.of{K:W.Frag}(h:H a=some (.lst xs)):SqL K H a xs:= .inl (.inl h)
def SqT.of{K:W.Frag}(h:H a=some (.tup xs)):SqT K H a xs:= .inl (.inl h)
theorem Inv.list(I:Inv X pins σ H s)(h:SqL X.K H a xs):∃a6:List Value,zP xs a6/\PlainL s.heap a a6.toArray/\xs.length<=sizeLine:=by
 rcases h with h | ⟨o,a6,n,b,hc,hd,hs,hz,r⟩
 ·obtain⟨z,a6,n,r,e⟩:=h.ok I.hok;exact⟨a6,r,⟨_,n,e,rfl,rfl,rfl⟩,z⟩
 ·refine⟨a6.toList,r,⟨o,n,I.kIn a o b,hc,hd,by simpa using hs⟩,?_⟩;have e:=r.length;simp only [w0E]at e
  lia
theorem Inv.tuple(I:Inv X pins σ H s)(h:SqT X.K H a xs):∃a6:List Value,zP xs a6/\IsTup s.heap a a6.toArray/\xs.length<=sizeLine:=by
 rcases h with h | ⟨o,a6,n,b,hc,hs,hz,r⟩
 ·obtain⟨z,a6,r,p⟩:=h.ok I.hok;exact⟨a6,r,p,z⟩
 ·refine⟨a6.toList,r,⟨o,I.kIn a o b,hc,n,by simpa using hs⟩,?_⟩;have e:=r.length;simp only [w0E]at e
  lia
theorem Inv.list_inj(I:Inv X pins σ H s)(h:SqL X.K H a xs)(h':SqL X.K H a ys):xs=ys:=by
 obtain⟨a6,r,⟨o,n,e,_,_,d⟩,_⟩:=I.list h;obtain⟨its',r',⟨o',c,b,_,_,d'⟩,_⟩:=I.list h';rw [e]at b;cases b;rw [d]at d'
 injection d' with d1 _
 have:a6=its':=by simpa using Qa Array.toList d1
 subst this;exact r.inj r'
theorem Inv.tuple_inj(I:Inv X pins σ H s)(h:SqT X.K H a xs)(h':SqT X.K H a ys):xs=ys:=by
 obtain⟨a6,r,⟨o,e,_,n,d⟩,_⟩:=I.tuple h;obtain⟨its',r',⟨o',b,_,c,d'⟩,_⟩:=I.tuple h';rw [e]at b;cases b;rw [d]at d'
 injection d' with d1 _
 have:a6=its':=by simpa using Qa Array.toList d1
 subst this;exact r.inj r'
end
noncomputable abbrev Cx.wish(X:Cx)(E:Value->Shared->Prop):Cx:={X with xe:=E}
noncomputable abbrev Cx.nox(X:Cx):Cx:=X.wish λ_ _=>False
theorem Cx.Ok.wish(ok:X.Ok)(E:Value->Shared->Prop):(X.wish E).Ok:=
 ⟨ok.mod,ok.kind,ok.glob,ok.blt,ok.above,ok.inj,ok.has,ok.cab,ok.hd,ok.frames,ok.stk,ok.exf,ok.bs,ok.bsz,ok.noex,ok.exfs,ok.funs,ok.frf⟩
def Cx.Ok.unwish(ok:(X.wish E).Ok):X.Ok:=
 ⟨ok.mod,ok.kind,ok.glob,ok.blt,ok.above,ok.inj,ok.has,ok.cab,ok.hd,ok.frames,ok.stk,ok.exf,ok.bs,ok.bsz,ok.noex,ok.exfs,ok.funs,ok.frf⟩
variable{D:Ends}
section
variable{σ:St}
theorem Inv.wish(I:Inv X pins σ H s)(E:Value->Shared->Prop):Inv (X.wish E) pins σ H s:=⟨I.ok.wish E,I.os,I.bare,I.base,I.loc,I.cell,I.free,I.freeC,I.pin,I.hok,I.len⟩
def Inv.unwish(I:Inv (X.wish E) pins σ H s):Inv X pins σ H s:=⟨I.ok.unwish,I.os,I.bare,I.base,I.loc,I.cell,I.free,I.freeC,I.pin,I.hok,I.len⟩
theorem SP.unwish{f:Flow}(h:SP (X.wish E) pins D f s'):SP X pins D f s':=by
 cases f with
 | next=>obtain⟨σ',H',I,q⟩:=h;exact⟨σ',H',I.unwish,q⟩
 | brk=>obtain⟨σ',H',I,q⟩:=h;exact⟨σ',H',I.unwish,q⟩
 | cont=>obtain⟨σ',H',I,q⟩:=h;exact⟨σ',H',I.unwish,q⟩
 | ret u=>obtain⟨v,σ',H',I,r,q⟩:=h;exact⟨v,σ',H',I.unwish,r,q⟩
theorem PSs.nox{st:List Stmt}{t:TS}(h:PSs X.nox st t):PSs X st t:=λpins s σ H D I a=>
 QK (h pins s σ H D (I.wish _) a) (λ_ _ q=>q.unwish) λ_ _ z=>False.elim z
end
variable{te:TE}{c:Expr}{tc:TT}
section
variable{st:Stmt}{rest:List Stmt}{t u:TS}
def z44:TS:=λD σ H=>D.nx σ H
def z2z(t u:TS):TS:=λD σ H=>t {D with nx:=u D} σ H
def zu:PSs X [] z44:=λ_ _ σ H _ I h=>wpAny_execs_nil ⟨σ,H,I,h⟩
theorem ze(h1:PS X st t)(h2:PSs X rest u):PSs X (st :: rest) (z2z t u):=by
 intro pins s σ H D I h;refine wpAny_execs_cons (thn (h1 pins s σ H {D with nx:=u D} I h) λf s1 q=> ?_);cases f with
 | next=>
  obtain⟨σ',H',a,q⟩:=q;exact h2 pins s1 σ' H' D a q
 | ret v=>exact q
 | brk=>exact q
 | cont=>exact q
theorem zh(h1:PS X st t):PSs X [st] t:=by
 intro pins s σ H D I h;refine wpAny_execs_cons (thn (h1 pins s σ H D I h) λf s1 q=> ?_);cases f with
 | next=>exact wpAny_execs_nil q
 | ret v=>exact q
 | brk=>exact q
 | cont=>exact q
theorem Inv.quiet{σ:St}(I:Inv X pins σ H s):interactive X.env=false:=by simp [interactive,I.ok.kind]
def zdJ(te:TE):TS:=λD σ H=>te σ H λ_ H1=>D.nx σ H1
theorem jg(c:PE X e te)(hs:swapsWith e none pos.line X.env=pure false:=by rfl):PS X (.Expr e pos) (zdJ te):=by
 intro pins s σ H D I h;exact wpAny_Expr_any (thn (c pins s σ H _ I h) λv s1 ⟨x,H1,a,r1,b⟩=>⟨σ,H1,a,b⟩) I.quiet hs
def zeS(te:TE):TS:=λD σ H=>te σ H D.rt
theorem zt(c:PE X e te):PS X (.Return (some e) pos) (zeS te):=by
 intro pins s σ H D I h;exact wpAny_Return_some (thn (c pins s σ H _ I h) λv s1 ⟨x,H1,a,r1,b⟩=>⟨x,σ,H1,a,r1,b⟩)
def z7k(c:TT)(t u:TS):TS:=λD σ H=>c σ H λb H1=>if b=true then t D σ H1 else u D σ H1
theorem zF{a b:List Stmt}(hc:PT X c tc)(ha:PSs X a t)(i:PSs X b u):PS X (.If c a b pos) (z7k tc t u):=by
 intro pins s σ H D I h;refine wpAny_If (thn (hc pins s σ H _ I h) ?_);rintro d s1 ⟨H1,e,f⟩;cases d with
 | true=>exact ha pins s1 σ H1 D e f
 | false=>exact i pins s1 σ H1 D e f
def zd0:TS:=λ_ _ _=>False
def z2A:PS X st zd0:=λ_ _ _ _ _ _ h=>h.elim
end
abbrev TG:=V->St->Hp->(St->Hp->Prop)->Prop
abbrev TGs:=List V->St->Hp->(St->Hp->Prop)->Prop
def PG(X:Cx)(target:Expr)(t:TG):Prop:=
 ∀(pins:List (Addr×Obj)) (s:Shared) (σ:St) (H:Hp) (v:V) (u:Value) (Q:St->Hp->Prop),Inv X pins σ H s->RelV v u->t v σ H Q->
  wpAny (model X.prog X.w) X.A (assign target X.env u) (λ_ s'=>∃σ' H',Inv X pins σ' H' s'/\Q σ' H') X.xe s
def PGs(X:Cx)(a:List Expr)(t:TGs):Prop:=
 ∀(pins:List (Addr×Obj)) (s:Shared) (σ:St) (H:Hp) (vs:List V) (us:List Value) (Q:St->Hp->Prop),Inv X pins σ H s->zP vs us->t vs σ H Q->
  wpAny (model X.prog X.w) X.A (assignInOrder ((assignEach a X.env).map (·.2)) us) (λ_ s'=>∃σ' H',Inv X pins σ' H' s'/\Q σ' H') X.xe s
abbrev zcP:=V->V->V->Hp->(Hp->Prop)->Prop
def ze8(X:Cx)(t:zcP):Prop:=
 ∀(pins:List (Addr×Obj)) (s:Shared) (σ:St) (H:Hp) (o i v:V) (a b u:Value) (Q:Hp->Prop),Inv X pins σ H s->RelV o a->RelV i b->RelV v u->t o i v H Q->
  wpAny (model X.prog X.w) X.A (setItem a b u) (λ_ s'=>∃H',Inv X pins σ H' s'/\Q H') X.xe s
variable{es:List Expr}{n:Nat}{tg:Expr}
def z1H(i:Nat):TG:=λv σ H Q=>Q (σ.set i (some v)) H
theorem z0J(a:X.N.Nodup)(hi:X.N[i]? =some x)(d:Loc X.env.scope x)(b:X.fn x=true\/X.env.scope.names.lookup x=some .local:=by first | exact .inl rfl | exact .inr rfl | assumption):PG X (.Name x pos) (z1H i):=by
 intro pins s σ H v u Q I r h;exact wpAny_assign_Name (z6V I a hi d r (λs' c=>⟨_,H,c,h⟩) b)
def zdv:TGs:=λvs σ H Q=>vs= []/\Q σ H
def z6F(t:TG)(u:TGs):TGs:=λvs σ H Q=>∃v r,vs=v :: r/\t v σ H λσ' H'=>u r σ' H' Q
theorem z8y:PGs X [] zdv:=by
 intro pins s σ H vs us Q I r h;obtain⟨e,h⟩:=h;subst e;cases r;exact assignInOrder_nil ⟨σ,H,I,h⟩
theorem z2T{t:TG}{u:TGs}(h1:PG X e t)(h2:PGs X es u)
  (hs:(assignEach (e :: es) X.env).map (·.2)=assign e X.env :: (assignEach es X.env).map (·.2):=by rfl):PGs X (e :: es) (z6F t u):=by
 intro pins s σ H vs us Q I r h;obtain⟨v,f,c,h⟩:=h;subst c;cases r with
 | cons r b=>
  rw [hs];refine assignInOrder_cons (thn (h1 pins s σ H _ _ _ I r h) ?_);rintro _ s1 ⟨σ1,H1,a,d⟩;exact h2 pins s1 σ1 H1 _ _ Q a b d
def zdF(K:W.Frag)(n:Nat)(t:TGs):TG:=λv σ H Q=>∃a xs,v= .ref a/\SqT K H a xs/\xs.length=n/\t xs σ H Q
theorem z9Q{k:Nat}{t:TGs}(hc:X.calm=true)(h:PGs X es t)
  (hn:(assignEach es X.env).length=n:=by rfl) (j:(assignEach es X.env).findIdx? (·.1)=none:=by rfl):PG X (.Tuple es k pos) (zdF X.K n t):=by
 intro pins s σ H v u Q I r c;obtain⟨a,xs,l,hq,hl,c⟩:=c;subst l;cases r;obtain⟨a6,d,ht,hz⟩:=I.tuple hq;refine assign_Tuple_tuple (I.ok.hd hc) ht (by simp [hn,<-hl,d.length]) j λh' i=> ?_
 have f:Inv X pins σ H {s with heap:=h'}:=I.kept (t':=s.toks) λb o e=>i b o (q5 (wL e)) e
 exact h pins _ σ H xs _ Q f (by simpa using d) c
def zeG(to a:TE)(t:zcP):TG:=λv σ H Q=>to σ H λo H1=>a σ H1 λi H2=>t o i v H2 λb=>Q σ b
theorem z7h{o i:Expr}{to c:TE}{t:zcP}(n:PE X o to)(hi:PE X i c)(hs:ze8 X t)
  (ha:∀v,assign (.Subscript o i pos) X.env v=(do
   let a<-holding [v] (eval o X.env)
   let b<-holding [v,a] (eval i X.env)
   standAt pos
   holding [v,a,b] (setItem a b v)
   release [v,a,b] []):=by intro _;rfl):PG X (.Subscript o i pos) (zeG to c t):=by
 intro pins s σ H v u Q I r h;rw [ha];refine wz (QP (thn (n pins s σ H _ I h) ?_));rintro a s1 ⟨x,H1,d,r1,l⟩;refine wz (QP (thn (hi pins s1 σ H1 _ d l) ?_));rintro b s2 ⟨y,H2,e,r2,j⟩;refine wz (wpAny_standAt (wz (QP (thn (hs pins s2 σ H2 x y v a b u _ e r1 r2 r j) ?_))));rintro _ w ⟨p,q,f⟩;exact wpAny_release ⟨σ,p,q,f⟩
def zcE(te:TE)(g:TG):TS:=λD σ H=>te σ H λx H1=>g x σ H1 D.nx
theorem z7P{g:TG}(b:PE X e te)(d:PG X tg g)(hs:swapsWithSole [tg] e pos.line X.env=pure false:=by rfl)(f:swappedStores [tg] e X.env=pure none:=by rfl)
  (h1:(assignEach [tg] X.env).map (·.2)= [assign tg X.env]:=by rfl):PS X (.Assign [tg] e pos) (zcE te g):=by
 intro pins s σ H D I h;refine wpAny_Assign_stores (thn (b pins s σ H _ I h) ?_) hs f;rintro v s1 ⟨x,H1,a,r1,c⟩;rw [h1];exact thn (d pins s1 σ H1 x v _ a r1 c) λ_ s2 q=>q
theorem kD{pos':Pos}(j:X.N.Nodup)(hi:X.N[i]? =some x)(d:Loc X.env.scope x)(c:PE X e te)(hs:swapsWith e (some (.Name x pos')) pos.line X.env=pure false:=by rfl)(l:X.fn x=true\/X.env.scope.names.lookup x=some .local:=by first | exact .inl rfl | exact .inr rfl | assumption):
  PS X (.Assign [.Name x pos'] e pos) (zcE te (z1H i)):=by
 intro pins s σ H D I h;refine wpAny_Assign_Name (thn (c pins s σ H _ I h) ?_) hs;rintro v s1 ⟨y,H1,a,r1,f⟩;exact z6V a j hi d r1 (λs2 b=>⟨_,H1,b,f⟩) l
variable{tb:TS}{body:List Stmt}
def z1r(c:TT)(tb:TS):TS:=λD σ H=>∃W:Nat->St->Hp->Prop,(∃m,W m σ H)/\∀m σ H,W m σ H->
 c σ H λb H1=>if b=true then∃N:St->Hp->Prop,(∀σ' H',N σ' H'->∃a,a < m/\W a σ' H')/\tb {D with nx:=N,ct:=N,bk:=D.nx} σ H1 else D.nx σ H1
theorem zaX(hp:PassesOwn (model X.prog X.w) X.A X.env X.xe)(hc:PT X c tc)(u:PSs X body tb):PS X (.While c body [] pos) (z1r tc tb):=by
 intro pins s σ H D I h;obtain⟨W,⟨t,w0⟩,turn⟩:=h;refine wpAny_While (codeAny_whileLoop (λn s'=>∃σ' H',Inv X pins σ' H' s'/\W n σ' H') ?_ t ⟨σ,H,I,w0⟩);rintro n s1 ⟨σ1,H1,r,w1⟩;refine w0x hp (thn (hc pins s1 σ1 H1 _ r (turn n σ1 H1 w1)) ?_);rintro b s2 ⟨H2,p,e⟩;cases b with
 | true=>
  obtain⟨N,q,e⟩:=e;rw [wU rfl];refine w0x hp (thn (u pins s2 σ1 H2 _ p e) λf x d=> ?_);cases f with
  | next=>
   obtain⟨σ3,a,o,j⟩:=d;obtain⟨i,hm,l⟩:=q σ3 a j;exact⟨i,hm,σ3,a,o,l⟩
  | cont=>
   obtain⟨σ3,a,o,j⟩:=d;obtain⟨i,hm,l⟩:=q σ3 a j;exact⟨i,hm,σ3,a,o,l⟩
  | brk=>exact d
  | ret v=>exact d
 | false=>
  rw [wM wQ];exact wpAny_execs_nil ⟨σ1,H2,p,e⟩
structure It where
 go:Nat->Hp->Prop
 yld:Nat->Hp->V->Hp->Prop
 stop:Nat->Hp->Prop
def z3w(X:Cx)(pins:List (Addr×Obj))(H:Hp)(b:Addr):Prop:=
 H b=none/\b≠X.env.locals/\b∉X.fs/\(b∈X.ex\/X.s₀.heap.objs.size<=b)/\(∀x c,X.env.cells.lookup x=some c->c≠b)/\∀p∈X.pn ++ pins,p.1≠b
variable{σ:St}
theorem Inv.fpOk(I:Inv X pins σ H s)(a:s.heap.objs.size<=b)(hn:H' b=none):z3w X pins H' b:=by
 refine⟨hn,QF (wT I.lt a),I.nofs a,.inr (wV I.sz a),λx c e z=> ?_,λp hp z=> ?_⟩
 ·obtain⟨v,q⟩:=I.cell x c e;exact absurd (wT q.lt (by rw [z];exact a)) (QO _)
 ·exact absurd (wT (wL (I.pin p hp).1) (by rw [z];exact a)) (QO _)
structure Turn(P:Program)(w:World)(K:W.Frag)(tg:Expr)(J:It)(fp:List Addr)(it:Addr)(tn:Nat->Heap->Prop):Prop where
 mem:it∈fp
 obj:∀i h,tn i h->∀b∈fp,∃o,h.get? b=some o/\∀v,o.data≠ .cell v
 keep:∀i h h',tn i h->(∀b∈fp,∀o,h.get? b=some o->h'.get? b=some o)->tn i h'
 item:∀(X:Cx),X.prog=P->X.w=w->X.K=K->X.calm=true->∀(i:Nat) (pins:List (Addr×Obj)) (s:Shared) (σ:St) (H:Hp) (E:Value->Shared->Prop),Inv X pins σ H s->(∀b∈fp,z3w X pins H b)->tn i s.heap->J.go i H->
  wpAny (model P w) X.A (pyNext (.ref it)) (λr s1=>∃u,r=some u/\
   wpAny (model P w) X.A (letOwnedTupleGo tg (.ref it) u) (λ_ s2=>∃x H',Inv X pins σ H' s2/\RelV x u/\J.yld i H x H'/\tn (i + 1) s2.heap/\∀b∈fp,H' b=none) E s1) E s
 done:∀(X:Cx),X.prog=P->X.w=w->X.K=K->X.calm=true->∀(i:Nat) (pins:List (Addr×Obj)) (s:Shared) (σ:St) (H:Hp) (E:Value->Shared->Prop),Inv X pins σ H s->(∀b∈fp,z3w X pins H b)->tn i s.heap->J.stop i H->
  wpAny (model P w) X.A (pyNext (.ref it)) (λr s1=>r=none/\Inv X pins σ H s1) E s
 self:∀(A:Around) (i:Nat) (s:Shared) (Q:Value->Shared->Prop) (E:Value->Shared->Prop),tn i s.heap->Q (.ref it) s->wpAny (model P w) A (pyIter (.ref it)) Q E s
abbrev TI:=St->Hp->(It->Hp->Prop)->Prop
def PIE(X:Cx)(pins:List (Addr×Obj))(σ:St)(tg:Expr)(R:It->Hp->Prop)(a:Value)(s2:Shared):Prop:=
 ∃(it:Addr) (fp:List Addr) (tn:Nat->Heap->Prop) (J:It) (H':Hp),a= .ref it/\Inv X pins σ H' s2/\Turn X.prog X.w X.K tg J fp it tn/\tn 0 s2.heap/\(∀b∈fp,z3w X pins H' b)/\R J H'
def PI(X:Cx)(tg iter:Expr)(wi:TI):Prop:=
 ∀(pins:List (Addr×Obj)) (s:Shared) (σ:St) (H:Hp) (R:It->Hp->Prop),Inv X pins σ H s->wi σ H R->
  wpAny (model X.prog X.w) X.A (eval iter X.env) (λv s1=>wpAny (model X.prog X.w) X.A (pyIter v) (PIE X pins σ tg R) X.xe s1) X.xe s
theorem z8E{o:Obj}{n:String}{vs:Array Value}{Q:Unit->Shared->Prop}(b:s.heap.get? it=some o)(hc:o.cls= .type n)(hd:o.data= .fields vs)
  (hn: ["enumerate","zip","dict_itemiterator","dict_reverseitemiterator","odict_iterator","itertools.zip_longest","itertools.pairwise"].contains n=false) (a:Q () s):wpAny M A (letOwnedTupleGo tg (.ref it) u) Q E s:=by
 unfold letOwnedTupleGo;cases tg <;> first
  | exact wZ a
  | (cases u <;> first
    | exact wZ a
    | (refine wz (wpAny_load b ?_)
       rw [hc,hd]
       show wpAny M A (if(["enumerate","zip","dict_itemiterator","dict_reverseitemiterator","odict_iterator","itertools.zip_longest","itertools.pairwise"].contains n && vs[0]? == some (rawInt _))=true then _ else _) Q E s
       rw [wM (by intro h;rw [hn,w11]at h;cases h)];exact wZ a))
noncomputable def Itl(K:W.Frag)(a:Addr):It:=
 ⟨λi H=>∃xs x,SqL K H a xs/\xs[i]? =some x,λi H x H'=>H'=H/\∀xs,SqL K H a xs->xs[i]? =some x,λi H=>∃xs,SqL K H a xs/\xs.length<=i⟩
noncomputable def Itt(K:W.Frag)(a:Addr):It:=
 ⟨λi H=>∃xs x,SqT K H a xs/\xs[i]? =some x,λi H x H'=>H'=H/\∀xs,SqT K H a xs->xs[i]? =some x,λi H=>∃xs,SqT K H a xs/\xs.length<=i⟩
noncomputable def Itr(lo:Int)(n:Nat):It:=⟨λi _=>i < n,λi H x H'=>H'=H/\x= .int (lo + i),λi _=>n<=i⟩
variable{K:W.Frag}
theorem z8X(a it:Addr):Turn P w K tg (Itl K a) [it] it (λi h=>h.IsListIter it a i) where
 mem:=by simp
 obj:=λi h st b f=>by
  have e:b=it:=by simpa using f
  subst e;obtain⟨o,e,c,d⟩:=st;exact⟨o,e,λv z=>by rw [d]at z;cases z⟩
 keep:=λi h h' st k=>st.at λo e=>k it (by simp) o e
 item:=by
  intro X C t y hc i pins s σ H E I j st r;subst C t y;obtain⟨xs,x,hq,n⟩:=r;obtain⟨a6,l,p,hz⟩:=I.list hq;obtain⟨u,N,J⟩:=l.get n;obtain⟨f0,f1,f2,A,B,q⟩:=j it (by simp);refine wpAny_pyNext_list_item st p.isList (x:=u) (by simpa using N) λh' D G=> ?_
  have F:Inv X pins σ H {s with heap:=h'}:=I.turned (t':=s.toks) (λb o f e=>(G.2 b f).trans e) f0 f1 A B q;obtain⟨o,e,c,d⟩:=id D;exact⟨u,rfl,z8E (s:={s with heap:=h'}) e c d (by decide) ⟨x,H,F,J,⟨rfl,λys L=>by rw [I.list_inj L hq];exact n⟩,D,λb f=>(j b f).1⟩⟩
 done:=by
  intro X C t y hc i pins s σ H E I j st r;subst C t y;obtain⟨xs,hq,n⟩:=r;obtain⟨a6,l,p,hz⟩:=I.list hq;obtain⟨f0,f1,f2,A,B,q⟩:=j it (by simp);have hl:=l.length;exact wpAny_pyNext_list_end (I.ok.hd hc) st p.isList (by simp;lia) λh' M=>⟨rfl,I.turned (t':=s.toks) (λb o f e=>M b o f e) f0 f1 A B q⟩
 self:=λ_ _ _ _ _ st h=>wpAny_pyIter_listiter st h
theorem z7M(a it:Addr):Turn P w K tg (Itt K a) [it] it (λi h=>h.IsTupleIter it a i) where
 mem:=by simp
 obj:=λi h st b f=>by
  have e:b=it:=by simpa using f
  subst e;obtain⟨o,e,c,d⟩:=st;exact⟨o,e,λv z=>by rw [d]at z;cases z⟩
 keep:=λi h h' st k=>st.at λo e=>k it (by simp) o e
 item:=by
  intro X C t y hc i pins s σ H E I j st r;subst C t y;obtain⟨xs,x,hq,n⟩:=r;obtain⟨a6,l,p,hz⟩:=I.tuple hq;obtain⟨u,N,J⟩:=l.get n;obtain⟨f0,f1,f2,A,B,q⟩:=j it (by simp);refine wpAny_pyNext_tuple_item st (show s.heap.IsTuple a a6.toArray from p) (x:=u) (by simpa using N) λh' D G=> ?_
  have F:Inv X pins σ H {s with heap:=h'}:=I.turned (t':=s.toks) (λb o f e=>(G.2 b f).trans e) f0 f1 A B q;obtain⟨o,e,c,d⟩:=id D;exact⟨u,rfl,z8E (s:={s with heap:=h'}) e c d (by decide) ⟨x,H,F,J,⟨rfl,λys L=>by rw [I.tuple_inj L hq];exact n⟩,D,λb f=>(j b f).1⟩⟩
 done:=by
  intro X C t y hc i pins s σ H E I j st r;subst C t y;obtain⟨xs,hq,n⟩:=r;obtain⟨a6,l,p,hz⟩:=I.tuple hq;obtain⟨f0,f1,f2,A,B,q⟩:=j it (by simp);have hl:=l.length;exact wpAny_pyNext_tuple_end (I.ok.hd hc) st (show s.heap.IsTuple a a6.toArray from p) (by simp;lia) λh' M=>⟨rfl,I.turned (t':=s.toks) (λb o f e=>M b o f e) f0 f1 A B q⟩
 self:=λ_ _ _ _ _ st h=>wpAny_pyIter_tupleiter st h
theorem z7p(it:Addr)(lo:Int)(n:Nat):Turn P w K tg (Itr lo n) [it] it (λi h=>IsRangeIter h it (lo + (i:Nat) * 1) ((n:Int) - (i:Nat)) 1) where
 mem:=by simp
 obj:=λi h st b a=>by
  have e:b=it:=by simpa using a
  subst e;exact⟨_,st,λv z=>by
   have y:Data.fields _=Data.cell v:=z;cases y⟩
 keep:=λi h h' st k=>k it (by simp) _ st
 item:=by
  intro X r j l hc i pins s σ H E I c st f;subst r j l;obtain⟨f0,f1,f2,p,q,d⟩:=c it (by simp);have W:=Walks.range (prog:=X.prog) (w:=X.w) (I.ok.hd hc) it lo 1 n;refine W.item i s _ _ f st λv h' tk A u kk=> ?_
  obtain⟨t,rfl⟩:=A;have x:Inv X pins σ H {s with heap:=h',toks:=tk}:=I.turned (λb o a e=>kk b o (by simpa using a) e) f0 f1 p q d;refine⟨_,rfl,z8E (s:={s with heap:=h',toks:=tk}) (n:="range_iterator") u rfl rfl (by decide) ⟨.int (lo + i),H,x,⟨t,?_⟩,⟨rfl,rfl⟩,u,λb a=>(c b a).1⟩⟩;rw [Int.mul_one]
 done:=by
  intro X r j l hc i pins s σ H E I c st f;subst r j l;obtain⟨f0,f1,f2,p,q,d⟩:=c it (by simp);exact wpAny_pyNext_range_end (I.ok.hd hc) st (by have:n<=i:=f;lia) λh' B=>⟨rfl,I.turned (t':=s.toks) (λb o a e=>B b o a e) f0 f1 p q d⟩
 self:=λ_ _ _ _ _ st h=>wpAny_pyIter_rangeiter st h
variable{l:Expr}{tl:TE}{p:Pos}{fp:List Addr}
def zcr(K:W.Frag)(tl:TE):TI:=λσ H R=>tl σ H λx H1=>∃a,x= .ref a/\(∃xs,SqL K H1 a xs)/\R (Itl K a) H1
def zeM(K:W.Frag)(tl:TE):TI:=λσ H R=>tl σ H λx H1=>∃a,x= .ref a/\(∃xs,SqT K H1 a xs)/\R (Itt K a) H1
theorem jb(hl:PE X l tl):PI X tg l (zcr X.K tl):=by
 intro pins s σ H R I h;refine thn (hl pins s σ H _ I h) ?_;rintro v s1 ⟨x,H1,c,r1,f⟩;obtain⟨a,e,⟨xs,hq⟩,q⟩:=f;subst e;cases r1;obtain⟨a6,i,p,hz⟩:=c.list hq;refine wpAny_pyIter_list p.isList ?_;refine⟨s1.heap.objs.size,[s1.heap.objs.size],_,_,H1,rfl,c.kept (t':=s1.toks) λb o e=>wm _ e,z8X a _,⟨_,qc _ rfl,rfl,rfl⟩,λb d=> ?_,q⟩;have e:b=s1.heap.objs.size:=by simpa using d
 subst e;exact c.fpOk (ww _) (c.hok.fresh (ww _))
theorem z31(hl:PE X l tl):PI X tg l (zeM X.K tl):=by
 intro pins s σ H R I h;refine thn (hl pins s σ H _ I h) ?_;rintro v s1 ⟨x,H1,c,r1,f⟩;obtain⟨a,e,⟨xs,hq⟩,q⟩:=f;subst e;cases r1;obtain⟨a6,i,p,hz⟩:=c.tuple hq;refine wpAny_pyIter_tuple (show s1.heap.IsTuple a a6.toArray from p) ?_;refine⟨s1.heap.objs.size,[s1.heap.objs.size],_,_,H1,rfl,c.kept (t':=s1.toks) λb o e=>wm _ e,z7M a _,⟨_,qc _ rfl,rfl,rfl⟩,λb d=> ?_,q⟩;have e:b=s1.heap.objs.size:=by simpa using d
 subst e;exact c.fpOk (ww _) (c.hok.fresh (ww _))
theorem z6u{R:It->Hp->Prop}{lo hi:Int}{t u v:Tok}{tk:Nat}(I:Inv X pins σ H s)(h1: -(2 ^ 62)<=lo)(h2:lo < 2 ^ 62)(i: -(2 ^ 62)<=hi)(h:hi < 2 ^ 62)
  (q:R (Itr lo (hi - lo).toNat) H):wpAny (model X.prog X.w) X.A (pyIter (.ref s.heap.objs.size)) (PIE X pins σ tg R) E {s with heap:=s.heap.push {cls:= .type "range",data:= .fields #[.int lo t,.int hi u,.int 1 v]},toks:=tk}:=by
 refine wpAny_pyIter_range (IsRange.new ..) (small_one h1 h2 i h) ?_;have a:Inv X pins σ H {s with heap:=s.heap.push {cls:= .type "range",data:= .fields #[.int lo t,.int hi u,.int 1 v]},toks:=tk}:=I.kept λb o e=>wm _ e
 refine⟨(s.heap.push {cls:= .type "range",data:= .fields #[.int lo t,.int hi u,.int 1 v]}).objs.size,[(s.heap.push {cls:= .type "range",data:= .fields #[.int lo t,.int hi u,.int 1 v]}).objs.size],_,_,H,rfl,
  a.kept (t':=tk) λb o e=>wm _ e,z7p _ lo (hi - lo).toNat,?_,λb c=> ?_,q⟩
 ·have f:lo + ((0:Nat):Int) * 1=lo:=by simp
  have d:(((hi - lo).toNat:Nat):Int) - ((0:Nat):Int)=Builtin.Range.rangeSize lo hi 1:=by rw [rangeSize_one];split <;> lia
  show IsRangeIter _ _ (lo + ((0:Nat):Int) * 1) ((((hi - lo).toNat:Nat):Int) - ((0:Nat):Int)) 1
  rw [f,d];exact qc _ rfl
 ·have e:b=(s.heap.push {cls:= .type "range",data:= .fields #[.int lo t,.int hi u,.int 1 v]}).objs.size:=by simpa using c
  subst e;exact a.fpOk (ww _) (a.hok.fresh (ww _))
def ze4(ta:TA):TI:=λσ H R=>ta σ H λvs H1=>∃j:Int,vs= [.int j]/\-(2 ^ 62)<=j/\j < 2 ^ 62/\R (Itr 0 j.toNat) H1
def zei(ta:TA):TI:=λσ H R=>ta σ H λvs H1=>∃i j:Int,vs= [.int i,.int j]/\(-(2 ^ 62)<=i/\i < 2 ^ 62/\-(2 ^ 62)<=j/\j < 2 ^ 62)/\R (Itr i (j - i).toNat) H1
theorem yi{a:Expr}{ta:TA}(i:Gl X "range")(hm:X.mg "range"=none)(ha:PA X [a] ta)(hs:starEach [a] X.env= [(false,eval a X.env)]:=by rfl):PI X tg (.Call (.Name "range" p) [a] [] pos) (ze4 ta):=by
 intro pins s σ H R I h;refine Call_ (z1q I i hm boot_range (Q3 (thn (ha pos pins s σ H _ I h) ?_) hs rfl));rintro us s1 ⟨vs,H1,c,r1,b⟩;obtain⟨j,e,b,f,q⟩:=b;subst e;cases r1 with
 | cons r d=>
  cases d;obtain⟨t,rfl⟩:=r;exact call_range_1 (z6u c (by lia) (by lia) b f (by simpa using q))
theorem z9k{a b:Expr}{ta:TA}(w:Gl X "range")(hm:X.mg "range"=none)(ha:PA X [a,b] ta)(hs:starEach [a,b] X.env= [(false,eval a X.env),(false,eval b X.env)]:=by rfl)(f:starEach [b] X.env= [(false,eval b X.env)]:=by rfl):
  PI X tg (.Call (.Name "range" p) [a,b] [] pos) (zei ta):=by
 intro pins s σ H R I h;refine Call_ (z1q I w hm boot_range (Q3 (thn (ha pos pins s σ H _ I h) ?_) (by rw [hs,f]) (by rw [f];rfl)));rintro us s1 ⟨vs,H1,l,r1,d⟩;obtain⟨i,j,e,⟨d,u,o,n⟩,q⟩:=d;subst e;cases r1 with
 | cons r c=>
  cases c with
  | cons r' c=>
   cases c;obtain⟨t,rfl⟩:=r;obtain⟨t',rfl⟩:=r';exact call_range_2 (z6u l d u o n q)
def z9y(wi:TI)(g:TG)(tb:TS):TS:=λD σ H=>wi σ H λJ H1=>∃W:Nat->Nat->St->Hp->Prop,(∃m,W 0 m σ H1)/\∀i m σ H,W i m σ H->
 (J.stop i H/\D.nx σ H)\/(J.go i H/\∃N:St->Hp->Prop,(∀σ' H',N σ' H'->∃a,a < m/\W (i + 1) a σ' H')/\∀x H',J.yld i H x H'->g x σ H' λσ2 H2=>tb {D with nx:=N,ct:=N,bk:=D.nx} σ2 H2)
noncomputable def z4x(fp:List Addr)(h:Heap):List (Addr×Obj):=fp.filterMap λb=>(h.get? b).map λo=>(b,o)
theorem z1j{o:Obj}(a:b∈fp)(e:h.get? b=some o):(b,o)∈z4x fp h:=List.mem_filterMap.mpr ⟨b,a,by rw [e];rfl⟩
theorem z8S{p:Addr×Obj}(hp:p∈z4x fp h):p.1∈fp/\h.get? p.1=some p.2:=by
 obtain⟨b,c,e⟩:=List.mem_filterMap.mp hp;cases q:h.get? b with
 | none=>rw [q]at e;cases e
 | some o=>
  rw [q]at e;have a:(b,o)=p:=Option.some.inj e;subst a;exact⟨c,q⟩
theorem Inv.pinned(I:Inv X pins σ H s)(h:∀b∈fp,z3w X pins H b)(f:∀b∈fp,∃o,s.heap.get? b=some o/\∀v,o.data≠ .cell v):Inv X (pins ++ z4x fp s.heap) σ H s:=
 I.pins_of λp hp=>(wx.mp hp).elim (λz=>I.pin p (wF _ z)) λz=>by
  obtain⟨c,e⟩:=z8S z;obtain⟨f0,f1,f2,_⟩:=h p.1 c;obtain⟨o,a,d⟩:=f p.1 c;rw [e]at a;cases a;exact⟨e,f0,f1,f2,d⟩
def Inv.unpinned{pl:List (Addr×Obj)}(I:Inv X (pins ++ pl) σ H s):Inv X pins σ H s:=I.pins_of λp hp=>I.pin p (wF _ (qe _ hp))
theorem zdi{iter:Expr}{wi:TI}{g:TG}(hp:PassesOwn (model X.prog X.w) X.A X.env X.xe)(hc:X.calm=true)(hi:PI X tg iter wi)(O:PG X tg g)(c:PSs X body tb)
  (hs:∀x,foldedSetIterable iter X.env x=pure x:=by intro _;rfl):PS X (.For tg iter body [] pos) (z9y wi g tb):=by
 intro pins s σ H D I h;refine wpAny_For (thn (hi pins s σ H _ I h) λv s1 h1=>thn h1 λlF s2 h2=> ?_) hs;obtain⟨it,fp,tn,J,H2,e,I2,T,aX,f2,W,⟨m0,w0⟩,turn⟩:=h2;subst e;have z:∀{H':Hp},(∀b∈fp,H' b=none)->∀b∈fp,z3w X pins H' b:=λhn b c=>⟨hn b c,(f2 b c).2⟩
 refine codeAny_forLoop_any (λn s'=>∃i σ' H',Inv X pins σ' H' s'/\tn i s'.heap/\(∀b∈fp,H' b=none)/\W i n σ' H') ?_ m0 ⟨0,σ,H2,I2,aX,λb c=>(f2 b c).1,w0⟩;rintro n E ⟨i,σ3,q,L,F,K,Z⟩;rcases turn i n σ3 q Z with⟨stop,qn⟩ | ⟨go,N,hN,step⟩
 ·refine w0x hp (thn (T.done X rfl rfl rfl hc i pins E σ3 q X.xe L (z K) F stop) ?_);rintro r s4 ⟨hr,I4⟩;subst hr;exact wpAny_execs_nil ⟨σ3,q,I4,qn⟩
 ·refine w0x hp (thn (T.item X rfl rfl rfl hc i pins E σ3 q X.xe L (z K) F go) ?_);rintro r s4 ⟨u,hr,P⟩;subst hr;refine w0x hp (thn P ?_);rintro _ G ⟨x,C,I5,r5,y5,t,R⟩;have y:=I5.pinned (z R) (T.obj _ _ t);refine w0x hp (thn (O _ G σ3 C x u _ y r5 (step x C y5)) ?_);rintro _ Y ⟨σ6,S,I6,U⟩;refine w0x hp (thn (c _ Y σ6 S _ I6 U) λf B l=> ?_);have again:∀{σ7:St} {a:Hp},Inv X (pins ++ z4x fp G.heap) σ7 a B->N σ7 a->∃m,m < n/\∃i σ' H',Inv X pins σ' H' B/\tn i B.heap/\(∀b∈fp,H' b=none)/\W i m σ' H':=λ{σ7 a} j p=>by
   obtain⟨M,hm,w7⟩:=hN σ7 a p;refine⟨M,hm,i + 1,σ7,a,j.unpinned,T.keep _ _ _ t λb c o e=>(j.pin (b,o) (wF _ (wF _ (z1j c e)))).1,λb c=> ?_,w7⟩;obtain⟨o,e,d⟩:=T.obj _ _ t b c;exact(j.pin (b,o) (wF _ (wF _ (z1j c e)))).2.1
  cases f with
  | next=>obtain⟨σ7,a,j,p⟩:=l;exact again j p
  | cont=>obtain⟨σ7,a,j,p⟩:=l;exact again j p
  | brk=>obtain⟨σ7,a,j,l⟩:=l;exact⟨σ7,a,j.unpinned,l⟩
  | ret v=>obtain⟨x7,σ7,a,j,Q,l⟩:=l;exact⟨x7,σ7,a,j.unpinned,Q,l⟩
theorem km{g:TG}(b:Nat->St->Hp->Prop)(h0:b 0 σ H)(hl:∀i σ H,i<=xs.length->b i σ H->SqL K H a xs)
  (hs:∀i x σ H,xs[i]? =some x->b i σ H->g x σ H λσ2 H2=>tb {D with nx:=b (i + 1),ct:=b (i + 1),bk:=D.nx} σ2 H2) (hd:∀σ H,b xs.length σ H->D.nx σ H):
  ∃W:Nat->Nat->St->Hp->Prop,(∃m,W 0 m σ H)/\∀i m σ H,W i m σ H->
   ((Itl K a).stop i H/\D.nx σ H)\/((Itl K a).go i H/\∃N:St->Hp->Prop,(∀σ' H',N σ' H'->∃c,c < m/\W (i + 1) c σ' H')/\∀x H',(Itl K a).yld i H x H'->g x σ H' λσ2 H2=>tb {D with nx:=N,ct:=N,bk:=D.nx} σ2 H2):=by
 refine⟨λi m σ H=>m=xs.length - i/\i<=xs.length/\b i σ H,⟨xs.length,by simp,qY _,h0⟩,?_⟩;rintro i m σ H ⟨rfl,hi,p⟩;have q:=hl i σ H hi p;by_cases ag:i < xs.length
 ·refine .inr ⟨⟨xs,xs[i],q,by simp [ag]⟩,b (i + 1),λσ' H' p'=>⟨xs.length - (i + 1),by lia,rfl,ag,p'⟩,λx H' y=> ?_⟩;obtain⟨e,y⟩:=y;subst e;exact hs i x σ _ (y xs q) p
 ·have e:i=xs.length:=by lia
  subst e;exact .inl ⟨⟨xs,q,ww _⟩,hd σ H p⟩
theorem z5X{g:TG}(b:Nat->St->Hp->Prop)(h0:b 0 σ H)(hl:∀i σ H,i<=xs.length->b i σ H->SqT K H a xs)
  (hs:∀i x σ H,xs[i]? =some x->b i σ H->g x σ H λσ2 H2=>tb {D with nx:=b (i + 1),ct:=b (i + 1),bk:=D.nx} σ2 H2) (hd:∀σ H,b xs.length σ H->D.nx σ H):
  ∃W:Nat->Nat->St->Hp->Prop,(∃m,W 0 m σ H)/\∀i m σ H,W i m σ H->
   ((Itt K a).stop i H/\D.nx σ H)\/((Itt K a).go i H/\∃N:St->Hp->Prop,(∀σ' H',N σ' H'->∃c,c < m/\W (i + 1) c σ' H')/\∀x H',(Itt K a).yld i H x H'->g x σ H' λσ2 H2=>tb {D with nx:=N,ct:=N,bk:=D.nx} σ2 H2):=by
 refine⟨λi m σ H=>m=xs.length - i/\i<=xs.length/\b i σ H,⟨xs.length,by simp,qY _,h0⟩,?_⟩;rintro i m σ H ⟨rfl,hi,p⟩;have q:=hl i σ H hi p;by_cases ag:i < xs.length
 ·refine .inr ⟨⟨xs,xs[i],q,by simp [ag]⟩,b (i + 1),λσ' H' p'=>⟨xs.length - (i + 1),by lia,rfl,ag,p'⟩,λx H' y=> ?_⟩;obtain⟨e,y⟩:=y;subst e;exact hs i x σ _ (y xs q) p
 ·have e:i=xs.length:=by lia
  subst e;exact .inl ⟨⟨xs,q,ww _⟩,hd σ H p⟩
theorem kJ{lo:Int}{g:TG}(a:Nat->St->Hp->Prop)(h0:a 0 σ H)
  (hs:∀i σ H,i < n->a i σ H->g (.int (lo + i)) σ H λσ2 H2=>tb {D with nx:=a (i + 1),ct:=a (i + 1),bk:=D.nx} σ2 H2) (hd:∀σ H,a n σ H->D.nx σ H):
  ∃W:Nat->Nat->St->Hp->Prop,(∃m,W 0 m σ H)/\∀i m σ H,W i m σ H->
   ((Itr lo n).stop i H/\D.nx σ H)\/((Itr lo n).go i H/\∃N:St->Hp->Prop,(∀σ' H',N σ' H'->∃b,b < m/\W (i + 1) b σ' H')/\∀x H',(Itr lo n).yld i H x H'->g x σ H' λσ2 H2=>tb {D with nx:=N,ct:=N,bk:=D.nx} σ2 H2):=by
 refine⟨λi m σ H=>m=n - i/\i<=n/\a i σ H,⟨n,by simp,qY _,h0⟩,?_⟩;rintro i m σ H ⟨rfl,hi,p⟩;by_cases ag:i < n
 ·refine .inr ⟨ag,a (i + 1),λσ' H' p'=>⟨n - (i + 1),by lia,rfl,ag,p'⟩,λx H' y=> ?_⟩;obtain⟨e,y⟩:=y;subst e y;exact hs i σ _ ag p
 ·have e:i=n:=by lia
  subst e;exact .inl ⟨ww _,hd σ H p⟩
abbrev R2:=V->V->Hp->VK->Prop
def OpR(X:Cx)(f:Value->Value->Sem Value)(r:R2):Prop:=
 ∀(pins:List (Addr×Obj)) (s:Shared) (σ:St) (H:Hp) (x y:V) (v u:Value) (Q:VK),Inv X pins σ H s->RelV x v->RelV y u->r x y H Q->
  wpAny (model X.prog X.w) X.A (f v u) (EP X pins σ Q) X.xe s
def UnR(X:Cx)(f:Value->Sem Value)(r:V->Hp->VK->Prop):Prop:=
 ∀(pins:List (Addr×Obj)) (s:Shared) (σ:St) (H:Hp) (x:V) (v:Value) (Q:VK),Inv X pins σ H s->RelV x v->r x H Q->
  wpAny (model X.prog X.w) X.A (f v) (EP X pins σ Q) X.xe s
def yZ(X:Cx)(f:Value)(r:List V->Hp->VK->Prop):Prop:=
 ∀(pins:List (Addr×Obj)) (s:Shared) (σ:St) (H:Hp) (xs:List V) (us:List Value) (Q:VK),Inv X pins σ H s->zP xs us->r xs H Q->
  wpAny (model X.prog X.w) X.A (call f us) (EP X pins σ Q) X.xe s
def zeH(X:Cx)(r:V->Hp->(Bool->Hp->Prop)->Prop):Prop:=
 ∀(pins:List (Addr×Obj)) (s:Shared) (σ:St) (H:Hp) (x:V) (v:Value) (Q:Bool->Hp->Prop),Inv X pins σ H s->RelV x v->r x H Q->
  wpAny (model X.prog X.w) X.A (truthy v) (TP X pins σ Q) X.xe s
def tOp(r:R2)(ta tb:TE):TE:=λσ H Q=>ta σ H λx H1=>tb σ H1 λy H2=>r x y H2 Q
def tUn(r:V->Hp->VK->Prop)(ta:TE):TE:=λσ H Q=>ta σ H λx H1=>r x H1 Q
def rI(C:Int->Int->Prop)(g:Int->Int->V):R2:=λx y H Q=>∃i j,x= .int i/\y= .int j/\C i j/\Q (g i j) H
def rI0(g:Int->Int->V):R2:=λx y H Q=>∃i j,x= .int i/\y= .int j/\Q (g i j) H
def rU(g:Int->V):V->Hp->VK->Prop:=λx H Q=>∃i,x= .int i/\Q (g i) H
variable{f:Value->Value->Sem Value}
section
variable{a b:Expr}{tb tc:TE}
theorem zdh(ha:PE X a ta)(i:PE X b tb){R:V->V->Hp->Prop}(I:Inv X pins σ H s)
  (h:ta σ H λx H1=>tb σ H1 λy H2=>R x y H2)  
  (o:∀v u s2 x y H2,Inv X pins σ H2 s2->RelV x v->RelV y u->R x y H2->wpAny (model X.prog X.w) X.A (f v u) Q X.xe s2):
  wpAny (model X.prog X.w) X.A (eval a X.env) (λv j=>wpAny (model X.prog X.w) X.A (eval b X.env) (λu c=>wpAny (model X.prog X.w) X.A (f v u) Q X.xe c) X.xe j) X.xe s:=by
 refine thn (ha pins s σ H _ I h) ?_;rintro v s1 ⟨x,H1,d,r1,n⟩;refine thn (i pins s1 σ H1 _ d n) ?_;rintro u s2 ⟨y,H2,e,r2,l⟩;exact o v u s2 x y H2 e r1 r2 l
theorem zr{op:Operator}{r:R2}(f:OpR X (binaryOp op) r)(ha:PE X a ta)(e:PE X b tb):PE X (.BinOp a op b pos) (tOp r ta tb):=by
 intro pins s σ H Q I h;exact wpAny_BinOp (zdh ha e I h λv u s2 x y H2 c i d q=>f pins s2 σ H2 x y v u Q c i d q)
theorem k8{op:UnaryOp}{r:V->Hp->VK->Prop}(d:UnR X (unaryOp op) r)(ha:PE X a ta):PE X (.UnaryOp op a pos) (tUn r ta):=by
 intro pins s σ H Q I h;exact UnaryOp_ (thn (ha pins s σ H _ I h) λv s1 ⟨x,H1,b,r1,c⟩=>d pins s1 σ H1 x v Q b r1 c)
theorem opI{C:Int->Int->Prop}{g:Int->Int->Int}
  (rule:∀(i j:Int) (t u:Tok) (s:Shared) (Q:Value->Shared->Prop) (E:Value->Shared->Prop),C i j->Q (.int (g i j) s.toks) {s with toks:=s.toks + 1}->wpAny (model X.prog X.w) X.A (f (.int i t) (.int j u)) Q E s):
  OpR X f (rI C λi j=> .int (g i j)):=by
 intro pins s σ H x y v u Q I b a h;obtain⟨i,j,rfl,rfl,hc,q⟩:=h;obtain⟨t,rfl⟩:=b;obtain⟨t',rfl⟩:=a;exact rule i j t t' s _ _ hc ⟨.int (g i j),H,I.tok _,⟨_,rfl⟩,q⟩
theorem zer{g:Int->Int->Int}
  (rule:∀(i j:Int) (t u:Tok) (s:Shared) (Q:Value->Shared->Prop) (E:Value->Shared->Prop),Q (.int (g i j) s.toks) {s with toks:=s.toks + 1}->wpAny (model X.prog X.w) X.A (f (.int i t) (.int j u)) Q E s):
  OpR X f (rI0 λi j=> .int (g i j)):=by
 intro pins s σ H x y v u Q I b a h;obtain⟨i,j,rfl,rfl,q⟩:=h;obtain⟨t,rfl⟩:=b;obtain⟨t',rfl⟩:=a;exact rule i j t t' s _ _ ⟨.int (g i j),H,I.tok _,⟨_,rfl⟩,q⟩
theorem zcV{g:Int->Int->Bool}
  (rule:∀(i j:Int) (t u:Tok) (s:Shared) (Q:Value->Shared->Prop) (E:Value->Shared->Prop),Q (.bool (g i j)) s->wpAny (model X.prog X.w) X.A (f (.int i t) (.int j u)) Q E s):
  OpR X f (rI0 λi j=> .bl (g i j)):=by
 intro pins s σ H x y v u Q I b a h;obtain⟨i,j,rfl,rfl,q⟩:=h;obtain⟨t,rfl⟩:=b;obtain⟨t',rfl⟩:=a;exact rule i j t t' s _ _ ⟨.bl (g i j),H,I,rfl,q⟩
def zeC(i j:Int):Prop:=0 < j/\j < 1073741824
def zdR(i j:Int):Prop:=0<=j/\j<=1000000/\i.natAbs < 2 ^ 64
def zds(i j:Int):Prop:=(-(2 ^ 64) < i/\i < 2 ^ 64)\/(-(2 ^ 64) < j/\j < 2 ^ 64)
theorem zds.ok{i j:Int}(h:zds i j):IntMulOk i j:=by
 rcases h with⟨h1,h2⟩ | ⟨h1,h2⟩
 ·exact .of_left (intBits_le_64 h1 h2)
 ·exact .of_right (intBits_le_64 h1 h2)
def kh:OpR X (binaryOp .Add) (rI0 λi j=> .int (i + j)):=zer λ_ _ _ _ _ _ _ q=>add_int q
def z34:OpR X (binaryOp .Sub) (rI0 λi j=> .int (i - j)):=zer λ_ _ _ _ _ _ _ q=>sub_int q
def z4e:OpR X (binaryOp .Mult) (rI zds λi j=> .int (i * j)):=opI λ_ _ _ _ _ _ _ hc q=>mul_int q hc.ok
theorem yb:OpR X (binaryOp .FloorDiv) (rI zeC λi j=> .int (i / j)):=opI λi j _ _ _ _ _ hc q=>by
 have h1:(0:Int) < j:=hc.1;have h2:j < 1073741824:=hc.2;exact floordiv_int (by lia) (by rw [Int.fdiv_eq_ediv_of_nonneg i (by lia)];exact q) (.inl (PyProof.noPylong_small (by lia)))
theorem zS:OpR X (binaryOp .Mod) (rI (λ_ j=>0 < j) λi j=> .int (i % j)):=opI λi j _ _ _ _ _ hc q=>by
 have h1:(0:Int) < j:=hc;exact mod_int' (by lia) (by rw [Int.fmod_eq_emod_of_nonneg i (by lia)];exact q)
def zcM:OpR X (binaryOp .Pow) (rI zdR λi j=> .int (i ^ j.toNat)):=opI λ_ _ _ _ _ _ _ hc q=>pow_int_small hc.1 hc.2.1 hc.2.2 q
theorem unI{f:Value->Sem Value}{g:Int->Int}
  (rule:∀(i:Int) (t:Tok) (s:Shared) (Q:Value->Shared->Prop) (E:Value->Shared->Prop),Q (.int (g i) s.toks) {s with toks:=s.toks + 1}->wpAny (model X.prog X.w) X.A (f (.int i t)) Q E s):
  UnR X f (rU λi=> .int (g i)):=by
 intro pins s σ H x v Q I a h;obtain⟨i,rfl,q⟩:=h;obtain⟨t,rfl⟩:=a;exact rule i t s _ _ ⟨.int (g i),H,I.tok _,⟨_,rfl⟩,q⟩
def yl:UnR X (unaryOp .USub) (rU λi=> .int (-i)):=unI λ_ _ _ _ _ q=>neg_int q
end
noncomputable def zeg:V->V->Bool
 | .non,.non=>true | .non,.int _=>true | .int _,.non=>true | .non,.bl _=>true | .bl _,.non=>true | .non,.str _=>true | .str _,.non=>true
 | .int _,.int _=>true | .bl _,.bl _=>true | .str _,.str _=>true | .byt _,.byt _=>true
 | .int _,.str _=>true | .str _,.int _=>true | .bl _,.str _=>true | .str _,.bl _=>true
 | _,_=>false
def rEq:R2:=λx y H Q=>zeg x y=true/\Q (.bl (decide (x=y))) H
def rNe:R2:=λx y H Q=>zeg x y=true/\Q (.bl (!decide (x=y))) H
theorem z8i{i j:Int}:decide (V.int i=V.int j)=(i == j):=by
 rw [w0d];simp
theorem z9Y{i j:Bool}:decide (V.bl i=V.bl j)=(i == j):=by
 rw [w0d];simp
theorem z8f{i j:Str}:decide (V.str i=V.str j)=(i == j):=by
 rw [w0d];simp
theorem z8g{i j:Array UInt8}:decide (V.byt i=V.byt j)=(i.toList == j.toList):=by
 rw [w0d];cases i;cases j;simp
variable{op:CmpOp}
section
variable{a b:Expr}{tb tc:TE}
theorem jh{Q:VK}{k k':Bool}(I:Inv X pins σ H s)(q:Q (.bl k) H)(e:k=k'):EP X pins σ Q (.bool k') s:=by
 subst e;exact⟨.bl k,H,I,rfl,q⟩
theorem zK:OpR X (compareOp .Eq) rEq:=by
 intro pins s σ H x y v u Q I b a h;obtain⟨hs,q⟩:=h;cases x with
 | non=>
  cases b;cases y with
  | non=>cases a;exact PySem.EqNone.eq_none_none (jh I q (by simp))
  | bl j=>cases a;exact PySem.EqNone.eq_none_bool (jh I q (by simp))
  | int j=>obtain⟨t',rfl⟩:=a;exact PySem.EqNone.eq_none_int (jh I q (by simp))
  | str j=>obtain⟨t',rfl⟩:=a;exact PySem.EqNone.eq_none_str (jh I q (by simp))
  | _=>exact absurd (show false=true from hs) wQ
 | bl i=>
  cases b;cases y with
  | non=>cases a;exact PySem.EqNone.eq_bool_none (jh I q (by simp))
  | bl j=>cases a;exact eq_bool (jh I q z9Y)
  | str j=>obtain⟨t',rfl⟩:=a;exact PySem.EqMixed.eq_bool_str (jh I q (by simp))
  | _=>exact absurd (show false=true from hs) wQ
 | int i=>
  obtain⟨t,rfl⟩:=b;cases y with
  | non=>cases a;exact PySem.EqNone.eq_int_none (jh I q (by simp))
  | int j=>obtain⟨t',rfl⟩:=a;exact eq_int (jh I q z8i)
  | str j=>obtain⟨t',rfl⟩:=a;exact PySem.EqMixed.eq_int_str (jh I q (by simp))
  | _=>exact absurd (show false=true from hs) wQ
 | str i=>
  obtain⟨t,rfl⟩:=b;cases y with
  | non=>cases a;exact PySem.EqNone.eq_str_none (jh I q (by simp))
  | bl j=>cases a;exact PySem.EqMixed.eq_str_bool (jh I q (by simp))
  | int j=>obtain⟨t',rfl⟩:=a;exact PySem.EqMixed.eq_str_int (jh I q (by simp))
  | str j=>obtain⟨t',rfl⟩:=a;exact eq_str (jh I q z8f)
  | _=>exact absurd (show false=true from hs) wQ
 | byt i=>
  obtain⟨t,rfl⟩:=b;cases y with
  | byt j=>obtain⟨t',rfl⟩:=a;exact PySem.W.eq_bytes (jh I q z8g)
  | _=>exact absurd (show false=true from hs) wQ
 | _=>cases y <;> exact absurd (show false=true from hs) wQ
theorem z14:OpR X (compareOp .NotEq) rNe:=by
 intro pins s σ H x y v u Q I b a h;obtain⟨hs,q⟩:=h;cases x with
 | non=>
  cases b;cases y with
  | non=>cases a;exact PySem.EqNone.ne_none_none (jh I q (by simp))
  | bl j=>cases a;exact PySem.EqNone.ne_none_bool (jh I q (by simp))
  | int j=>obtain⟨t',rfl⟩:=a;exact PySem.EqNone.ne_none_int (jh I q (by simp))
  | str j=>obtain⟨t',rfl⟩:=a;exact PySem.EqNone.ne_none_str (jh I q (by simp))
  | _=>exact absurd (show false=true from hs) wQ
 | bl i=>
  cases b;cases y with
  | non=>cases a;exact PySem.EqNone.ne_bool_none (jh I q (by simp))
  | bl j=>cases a;exact ne_bool (jh I q (Qa not z9Y))
  | str j=>obtain⟨t',rfl⟩:=a;exact PySem.EqMixed.ne_bool_str (jh I q (by simp))
  | _=>exact absurd (show false=true from hs) wQ
 | int i=>
  obtain⟨t,rfl⟩:=b;cases y with
  | non=>cases a;exact PySem.EqNone.ne_int_none (jh I q (by simp))
  | int j=>obtain⟨t',rfl⟩:=a;exact ne_int (jh I q (Qa not z8i))
  | str j=>obtain⟨t',rfl⟩:=a;exact PySem.EqMixed.ne_int_str (jh I q (by simp))
  | _=>exact absurd (show false=true from hs) wQ
 | str i=>
  obtain⟨t,rfl⟩:=b;cases y with
  | non=>cases a;exact PySem.EqNone.ne_str_none (jh I q (by simp))
  | bl j=>cases a;exact PySem.EqMixed.ne_str_bool (jh I q (by simp))
  | int j=>obtain⟨t',rfl⟩:=a;exact PySem.EqMixed.ne_str_int (jh I q (by simp))
  | str j=>obtain⟨t',rfl⟩:=a;exact ne_str (jh I q (Qa not z8f))
  | _=>exact absurd (show false=true from hs) wQ
 | byt i=>
  obtain⟨t,rfl⟩:=b;cases y with
  | byt j=>obtain⟨t',rfl⟩:=a;exact PySem.W.ne_bytes (jh I q (Qa not z8g))
  | _=>exact absurd (show false=true from hs) wQ
 | _=>cases y <;> exact absurd (show false=true from hs) wQ
def z5p:OpR X (compareOp .Lt) (rI0 λi j=> .bl (decide (i < j))):=zcV λ_ _ _ _ _ _ _ q=>lt_int q
def zcv:OpR X (compareOp .LtE) (rI0 λi j=> .bl (decide (i<=j))):=zcV λ_ _ _ _ _ _ _ q=>le_int q
def z6g:OpR X (compareOp .Gt) (rI0 λi j=> .bl (decide (j < i))):=zcV λ_ _ _ _ _ _ _ q=>gt_int q
theorem z8K:OpR X (compareOp .IsNot) (λx y H Q=>y= .non/\Q (.bl (!decide (x= .non))) H):=by
 intro pins s σ H x y v u Q I a b h;obtain⟨rfl,q⟩:=h;cases b;refine isnot_none_gen (jh I q ?_);cases x <;> first
  | (cases a;rfl)
  | (obtain⟨t,rfl⟩:=a;rfl)
theorem z9E(b:Expr)(h:op≠ .In:=by decide)(h2:op≠ .NotIn:=by decide):behindInMarks op b=false:=by
 have a:(op == CmpOp.In)=false:=by cases op <;> first | rfl | exact absurd rfl h
 have c:(op == CmpOp.NotIn)=false:=by cases op <;> first | rfl | exact absurd rfl h2
 cases b <;> simp [behindInMarks,a,c]
theorem z3N{r:R2}(f:OpR X (compareOp op) r)(ha:PE X a ta)(e:PE X b tb)(hm:behindInMarks op b=false):PE X (.Compare a [op] [b] pos) (tOp r ta tb):=by
 intro pins s σ H Q I h;exact wpAny_Compare1 (zdh ha e I h λv u s2 x y H2 c i d q=>f pins s2 σ H2 x y v u Q c i d q) hm
def zcp(t:TE):TT:=λσ H Q=>t σ H λx H'=>∃k,x= .bl k/\Q k H'
theorem jR{r:R2}(o:OpR X (compareOp op) r)(ha:PE X a ta)(i:PE X b tb)(hm:behindInMarks op b=false):PT X (.Compare a [op] [b] pos) (zcp (tOp r ta tb)):=by
 intro pins s σ H Q I h;refine wpAny_isTrue_Compare1 (thn (ha pins s σ H _ I h) λv s1 ⟨x,H1,d,r1,n⟩=>thn (i pins s1 σ H1 _ d n) λu s2 ⟨y,H2,f,r2,l⟩=>
  thn (o pins s2 σ H2 x y v u _ f r1 r2 l) λc t ⟨z,p,q,r3,k,e,j⟩=> ?_) hm
 subst e;cases r3;exact w09 ⟨p,q,j⟩
def zdQ(K:W.Frag)(x:V)(H:Hp)(k:Bool):Prop:=
 match x with
 | .non=>k=false
 | .bl b=>k=b
 | .int i=>k=(i != 0)
 | .str y=>y.length<=sizeLine/\k=((y.length:Int) != 0)
 | .byt y=>y.size<=sizeLine/\k=((y.size:Int) != 0)
 | .ref p=>(∃xs,SqL K H p xs/\k= !xs.isEmpty)\/(∃xs,SqT K H p xs/\k= !xs.isEmpty)\/∃kvs,H p=some (.dK kvs)/\k= !kvs.isEmpty
 | _=>False
theorem z7j{kvs:List (κ×V)}{vs:List (κ×Value)}(r:KV kvs vs):(!vs.isEmpty)= !kvs.isEmpty:=by
 cases r <;> rfl
theorem z3U{a6:List Value}(r:zP xs a6):(!a6.toArray.isEmpty)= !xs.isEmpty:=by
 cases r <;> simp
theorem z2n:(sizeLine:Nat) < 2 ^ 63:=by rw [QW];decide
theorem zd9:zeH X (λx H Q=>∃k,zdQ X.K x H k/\Q k H):=by
 intro pins s σ H x v Q I c h;obtain⟨k,e,q⟩:=h;have hl:=z2n;have hs:sizeLine=16777216:=QW;cases x with
 | non=>
  cases c;have a:k=false:=e;subst a;exact truthy_none ⟨H,I,q⟩
 | bl b=>
  cases c;have a:k=b:=e;subst a;exact w09 ⟨H,I,q⟩
 | int i=>
  obtain⟨t,rfl⟩:=c;have a:k=(i != 0):=e;subst a;exact PySem.P.truthy_int ⟨H,I,q⟩
 | str y=>
  obtain⟨t,rfl⟩:=c;obtain⟨f,a⟩:y.length<=sizeLine/\k=((y.length:Int) != 0):=e;subst a;exact PySem.P.truthy_str (by lia) ⟨H,I.tok _,q⟩
 | byt y=>
  obtain⟨t,rfl⟩:=c;obtain⟨f,a⟩:y.size<=sizeLine/\k=((y.size:Int) != 0):=e;subst a;exact PySem.W.truthy_bytes (by lia) ⟨H,I.tok _,q⟩
 | ref p=>
  cases c;have a:(∃xs,SqL X.K H p xs/\k= !xs.isEmpty)\/(∃xs,SqT X.K H p xs/\k= !xs.isEmpty)\/∃kvs,H p=some (.dK kvs)/\k= !kvs.isEmpty:=e
  rcases a with⟨xs,hx,a⟩ | ⟨xs,hx,a⟩ | ⟨kvs,hx,a⟩
  ·subst a;obtain⟨a6,r,pl,hz⟩:=I.list hx;have hlen:=r.length;exact wpAny_truthy_list pl.isList (by simp only [wy];lia) ⟨H,I.tok _,by rw [z3U r];exact q⟩
  ·subst a;obtain⟨a6,r,pl,hz⟩:=I.tuple hx;have hlen:=r.length;exact truthy_tuple pl (by simp only [wy];lia) ⟨H,I.tok _,by rw [z3U r];exact q⟩
  ·subst a;obtain⟨hz,d,vs,r,m⟩:kvs.length<=sizeLine/\(p == sysModules)=false/\∃vs,KV kvs vs/\s.heap.DictOf (jC X.prog X.w) p vs:=I.hok p _ hx
   have hlen:kvs.length=vs.length:=Paired.length r;exact wpAny_truthy_dict d m (by lia) ⟨H,I.tok _,by rw [z7j r];exact q⟩
 | _=>exact(show False from e).elim
theorem z2H(ha:PE X a ta)(d:∀whole,isTrue a X.env whole=(do let v<-whole;standAt a.pos;holding [v] (truthy v))):
  PT X a (λσ H Q=>ta σ H λx H'=>∃k,zdQ X.K x H' k/\Q k H'):=by
 intro pins s σ H Q I h;exact isTrue_plain (thn (ha pins s σ H _ I h) λv s1 ⟨x,H1,b,r1,c⟩=>zd9 pins s1 σ H1 x v Q b r1 c) (d _)
theorem zp:OpR X (binaryOp .Add) (λx y H Q=>∃i j,x= .str i/\y= .str j/\i.length + j.length<=sizeLine/\Q (.str (i ++ j)) H):=by
 intro pins s σ H x y v u Q I b a h;obtain⟨i,j,rfl,rfl,hz,q⟩:=h;obtain⟨t,rfl⟩:=b;obtain⟨t',rfl⟩:=a;exact add_str (λt' tk=>⟨.str (i ++ j),H,I.tok _,⟨_,rfl⟩,q⟩) hz
theorem vals1{x:V}(r:zP [x] us):∃u,us= [u]/\RelV x u:=by
 cases r with
 | cons r1 r2=>cases r2;exact⟨_,rfl,r1⟩
theorem vals2{x:V}(r:zP [x,y] us):∃u a,us= [u,a]/\RelV x u/\RelV y a:=by
 cases r with
 | cons r1 r2=>
  cases r2 with
  | cons r3 b=>cases b;exact⟨_,_,rfl,r1,r3⟩
theorem z8Q(hc:X.calm=true):yZ X (.builtin "max") (λxs H Q=>∃i j,xs= [.int i,.int j]/\Q (.int (if j > i then j else i)) H):=by
 intro pins s σ H xs us Q I r h;obtain⟨i,j,rfl,q⟩:=h;obtain⟨u,a,rfl,⟨t,rfl⟩,⟨t',rfl⟩⟩:=vals2 r;refine max_two_ints (I.ok.hd hc) λh' tk k=>⟨_,H,I.kept k,?_,q⟩
 by_cases hj:j > i
 ·rw [wU hj,wU hj];exact⟨_,rfl⟩
 ·rw [wM hj,wM hj];exact⟨_,rfl⟩
theorem z59(hc:X.calm=true):yZ X (.builtin "min") (λxs H Q=>∃i j,xs= [.int i,.int j]/\Q (.int (if j < i then j else i)) H):=by
 intro pins s σ H xs us Q I r h;obtain⟨i,j,rfl,q⟩:=h;obtain⟨u,a,rfl,⟨t,rfl⟩,⟨t',rfl⟩⟩:=vals2 r;refine min_two_ints (I.ok.hd hc) λh' tk k=>⟨_,H,I.kept k,?_,q⟩
 by_cases hj:j < i
 ·rw [wU hj,wU hj];exact⟨_,rfl⟩
 ·rw [wM hj,wM hj];exact⟨_,rfl⟩
theorem z99:yZ X (.type "int") (λxs H Q=>(∃i,xs= [.int i]/\Q (.int i) H)\/∃k,xs= [.bl k]/\Q (.int (if k then 1 else 0)) H):=by
 intro pins s σ H xs us Q I r h;rcases h with⟨i,rfl,q⟩ | ⟨k,rfl,q⟩
 ·obtain⟨u,rfl,t,rfl⟩:=vals1 r;exact call_int_int ⟨.int i,H,I,⟨_,rfl⟩,q⟩
 ·obtain⟨u,rfl,r1⟩:=vals1 r;cases r1;exact call_int_bool ⟨.int (if k then 1 else 0),H,I.tok _,⟨_,rfl⟩,q⟩
theorem z5H:yZ X (.type "str") (λxs H Q=>∃i,xs= [.int i]/\i.natAbs.log2 < 1920/\Q (.str (toString i)) H):=by
 intro pins s σ H xs us Q I r h;obtain⟨i,rfl,hz,q⟩:=h;obtain⟨u,rfl,t,rfl⟩:=vals1 r;exact PySem.P.str_of_int hz ⟨.str _,H,I.tok _,⟨_,rfl⟩,q⟩
end
structure ObjM(h:Heap)(x dx C:Addr)(mA:Str->Option Value):Prop where
 obj:h.get? x=some (PySem.W.instObj C dx)
 ns:h.Ns1 dx mA
 ne:dx≠x
variable{dx:Addr}{mA:Str->Option Value}
theorem z9i(n:h.Ns1 dx mA):∃od,h.get? dx=some od/\∀name,PySem.W.lookIn name od=some (mA name):=by
 obtain⟨o,es,ep,d,hd,b,_,hm⟩:=n;refine⟨o,d,λname=> ?_⟩;have e:=hm name;unfold nsFind findBy at e;rw [<-Array.find?_toList]at e;unfold PySem.W.lookIn;rw [hd];dsimp only;split
 ·rename_i y q;rw [q]at e;exact Qa some e
 ·rename_i q;rw [q]at e;have a:es.toList.any (·.refKey)=false:=by
   rw [List.any_eq_false];intro y c;obtain⟨z,t,f⟩:=b y (Array.mem_toList_iff.mp c);simp [DictEntry.refKey,f]
  have a':¬es.toList.any (·.refKey)=true:=by rw [a];exact wQ
  rw [wM a'];exact Qa some e
variable{C:Addr}
def ObjM.look{x:Addr}(I:ObjM h x dx C mA):∃od,PySem.W.InstAt h x (PySem.W.instObj C dx) C (some od)/\∀name,PySem.W.lookIn name od=some (mA name):=
 let ⟨od,ho,hl⟩:=z9i I.ns
 ⟨od,⟨I.obj,rfl,rfl,ho⟩,hl⟩
variable{prog:Program}{kw:List (Str×Value)}
section
variable{K:W.Frag}{x f:Addr}{name:Str}{v:Value}
theorem get_map{expr:Bool}(X:K.In s.heap)(I:ObjM s.heap x dx C mA)(b:PySem.W.plainGet K C name=true)(c:PySem.W.hasDictIn K C=true)
  (ha:PySem.W.findIn K (.ref C) name=some none) (d:mA name=some v) (a:PySem.W.handedIn v=true) (h:Q v {s with toks:=s.toks + 1}):
  wpAny (model prog w) A (getAttr (.ref x) name expr) Q E s:=by
 obtain⟨od,J,hl⟩:=I.look;exact PySem.W.get_value X J (PySem.W.plainGet_of b).1 (PySem.W.findObj_own c ha rfl (by rw [hl,d])) a h
theorem zb1{pl:Sem Bool}{Q:Value×List Value->Shared->Prop}(X:K.In s.heap)(I:ObjM s.heap x dx C mA)(a:PySem.W.plainGet K C name=true)
  (b:PySem.W.findIn K (.ref C) name=some (some (.ref f))) (ht:PySem.W.isFn K (.ref f)=true) (c:mA name=none) (h:Q (.ref f,[.ref x]) s):
  wpAny (model prog w) A (getMethod (.ref x) name pl) Q E s:=by
 obtain⟨od,J,hl⟩:=I.look;exact PySem.W.method_fn X J (PySem.W.plainGet_of a).1 (PySem.W.plainGet_of a).2 b (Qi.mp ht) (by show(PySem.W.lookIn name od).map (·.isSome)=some false;rw [hl,c];rfl) h
theorem zca{ns:List Str}{Q:Unit->Shared->Prop}(X:K.In s.heap)(I:ObjM s.heap x dx C mA)
  (hs:PySem.W.findIn K (.ref C) "__setattr__"=some (some (.builtin "object.__setattr__"))) (hp:PySem.W.plainOver K C=true) (ht:PySem.W.takerIn K C name=some none) (l:PySem.W.hasDictIn K C=true)
  (n:PySem.Within mA ns) (hsz:ns.length<=sizeLine)
  (h:∀h',ObjM h' x dx C (λy=>if y=name then some v else mA y)->Heap.SameBut dx s.heap h'->Q () {s with heap:=h',toks:=s.toks + 2}):
  wpAny (model prog w) A (setAttr (.ref x) name v) Q E s:=by
 obtain⟨od,J,hl⟩:=I.look;refine PySem.W.set_plain X J hs (PySem.W.osa_open (s:={s with toks:=s.toks + 1}) (r:=none) X J hp ht λb=> ?_);obtain⟨cd,hc,f⟩:=PySem.W.any_some l;have e:s.heap.get? x=some ⟨.ref C,some dx,.plain,#[]⟩:=I.obj;refine wz (wZ (wz (wz (wpAny_loadPart e (wz (PySem.W.Looks.here (s:={s with toks:=s.toks + 1}) (PySem.W.looks_clsIn X hc) ?_))))));rw [f];refine wZ (a:=some dx) (wz (wZ (wz ?_)));refine wpAny_nsSet1 (s:={s with toks:=s.toks + 1}) I.ns λh' d c=> ?_
 obtain⟨t,q,p,i,o,j⟩:=d.count (PySem.Within.cons name v n);refine wz (wpAny_lookBehind i (by rw [o];exact pastItsLine_dict (wV j (by rw [wJ];lia))) ?_);exact wZ (h _ ⟨(c.2 _ (w1h I.ne)).trans I.obj,d,I.ne⟩ c)
theorem z9O{R:Result->Shared->Prop}{vs:List Value}(X:K.In s.heap)(hm:PySem.W.makesIn K C=true)
  (hi:PySem.W.findIn K (.ref C) "__init__"=some (some (.ref f))) (a:PySem.W.typeIn K (.ref f)=some (.type "function"))
  (h:codeAny (model prog w) (A.under (.builtin "type.__call__" ⟨.ref C :: vs,kw⟩)) (.call (.ref f) ⟨.ref (s.heap.objs.size + 1) :: vs,kw⟩) (PySem.W.InitBack (s.heap.objs.size + 1) R)
   {s with heap:=(s.heap.push PySem.W.emptyDict).push (PySem.W.instObj C s.heap.objs.size)}):
  codeAny (model prog w) A (.call (.ref C) ⟨vs,kw⟩) R s:=by
 obtain⟨b,g,d,t,os⟩:=s;exact PySem.W.make_core (PySem.W.makes_of X hm) (PySem.W.looks_findIn X hi) (λself=>PySem.W.bind_fn X self a) (.inl rfl) h
end
noncomputable def yN(f:Str)(v:V):List (Str×V)->List (Str×V)
 | []=> [(f,v)]
 | (g,x) :: r=>if g=f then(g,v) :: r else(g,x) :: yN f v r
theorem z3l(f g:Str)(v:V):∀fs:List (Str×V),(yN f v fs).lookup g=if g=f then some v else fs.lookup g
 | []=>by
  show List.lookup g [(f,v)]=_
  by_cases h:g=f
  ·have a:(g == f)=true:=Qi.mpr h;simp only [List.lookup,a,wU h]
  ·have a:(g == f)=false:=w0b.mpr h;simp only [List.lookup,a,wM h]
 | (k,x) :: r=>by
  have b:=z3l f g v r;rw [show yN f v ((k,x) :: r)=(if k=f then(k,v) :: r else(k,x) :: yN f v r)from rfl];by_cases hk:k=f
  ·rw [wU hk];by_cases h:g=k
   ·have a:(g == k)=true:=Qi.mpr h;simp only [List.lookup,a,wU (h.trans hk)]
   ·have a:(g == k)=false:=w0b.mpr h;simp only [List.lookup,a,wM (λe:g=f=>h (e.trans hk.symm))]
  ·rw [wM hk];by_cases h:g=k
   ·have a:(g == k)=true:=Qi.mpr h;simp only [List.lookup,a,wM (λe:g=f=>hk (h.symm.trans e))]
   ·have a:(g == k)=false:=w0b.mpr h;simp only [List.lookup,a];exact b
theorem z36(f:Str)(v:V):∀fs:List (Str×V),f∈(yN f v fs).map (·.1)/\∀g,g∈fs.map (·.1)->g∈(yN f v fs).map (·.1)
 | []=>⟨by simp [yN],λg h=>by simp at h⟩
 | (k,x) :: r=>by
  obtain⟨b,a⟩:=z36 f v r;rw [show yN f v ((k,x) :: r)=(if k=f then(k,v) :: r else(k,x) :: yN f v r)from rfl];by_cases hk:k=f
  ·rw [wU hk];subst hk;exact⟨by simp,λg h=>by simpa using h⟩
  ·rw [wM hk];refine⟨?_,λg h=> ?_⟩
   ·rw [wR];exact wY _ b
   ·rw [wR]at h ⊢;rcases wE.mp h with e | e
    ·exact wE.mpr (.inl e)
    ·exact wY _ (a g e)
theorem z3k(f:Str)(v:V):∀fs:List (Str×V),(yN f v fs).length<=fs.length + 1
 | []=>by simp [yN]
 | (k,x) :: r=>by
  have a:=z3k f v r;rw [show yN f v ((k,x) :: r)=(if k=f then(k,v) :: r else(k,x) :: yN f v r)from rfl];by_cases hk:k=f
  ·rw [wU hk,wJ,wJ];lia
  ·rw [wM hk,wJ,wJ];lia
theorem z29.some_of{v:V}{o:Option Value}(r:z29 (some v) o):∃u,o=some u/\RelV v u:=by
 cases o with
 | none=>exact(show False from r).elim
 | some u=>exact⟨u,rfl,r⟩
theorem z29.none_of{o:Option Value}(r:z29 none o):o=none:=by
 cases o with
 | none=>rfl
 | some u=>exact(show False from r).elim
theorem z8N{v:V}(r:RelV v u):PySem.W.handedIn u=true:=by
 cases v with
 | non=>cases (show u=Value.none from r);rfl
 | bl b=>cases (show u=Value.bool b from r);rfl
 | int i=>obtain⟨t,e⟩:=(show∃t,u=Value.int i t from r);cases e;rfl
 | str x=>obtain⟨t,e⟩:=(show∃t,u=Value.str x t from r);cases e;rfl
 | byt b=>obtain⟨t,e⟩:=(show∃t,u=Value.bytes b t from r);cases e;rfl
 | flt b=>obtain⟨t,e⟩:=(show∃t,u=Value.float b t from r);cases e;rfl
 | ref a=>cases (show u=Value.ref a from r);rfl
 | ty n=>cases (show u=Value.type n from r);rfl
section
variable{fs eS:List (Str×V)}
theorem z3I(hok:HOk P w H h)(e:H a=some (.ins C dx fs)):∃mA,ObjM h a dx C mA/\(∀f,z29 (fs.lookup f) (mA f))/\PySem.Within mA (fs.map (·.1))/\fs.length<=1000/\H dx=some (.own a):=by
 obtain⟨d,z,ne,b,mA,n,r,q⟩:=(show jj P w H h a (.ins C dx fs)from hok a _ e);exact⟨mA,⟨b,n,ne⟩,r,q,z,d⟩
end
structure Cls(K:W.Frag)(C:Addr):Prop where
 pg:PySem.W.plainGet K C Str.empty=true
 hd:PySem.W.hasDictIn K C=true
 po:PySem.W.plainOver K C=true
 sa:PySem.W.findIn K (.ref C) "__setattr__"=some (some (.builtin "object.__setattr__"))
theorem Cls.get{K:W.Frag}{C:Addr}(c:Cls K C)(f:Str):PySem.W.plainGet K C f=true:=c.pg
def NoAttr(K:W.Frag)(C:Addr)(f:Str):Prop:=PySem.W.findIn K (.ref C) f=some none
theorem NoAttr.taker{f:Str}(n:NoAttr K C f):PySem.W.takerIn K C f=some none:=by
 unfold PySem.W.takerIn;rw [show PySem.W.findIn K (.ref C) f=some none from n]
 rfl
structure Con(K:W.Frag)(C:Addr)(f:Str)(v:V)(u:Value):Prop where
 at_:PySem.W.findIn K (.ref C) f=some (some u)
 rel:RelV v u
 get:PySem.W.specialIn K u "__get__"=some none
 cp:PySem.W.copiedNames.contains f=false
structure Meth(K:W.Frag)(C:Addr)(m:Str)(f:Addr):Prop where
 at_:PySem.W.findIn K (.ref C) m=some (some (.ref f))
 fn:PySem.W.isFn K (.ref f)=true
 kp:PySem.W.keepIn K (.ref f)=true
section
variable{σ:St}{fs:List (Str×V)}{f:Str}{v:V}
theorem z7F{b:Bool}(I:Inv X pins σ H s)(e:H a=some (.ins C dx fs))(c:Cls X.K C)(n:NoAttr X.K C f)(l:fs.lookup f=some v)
  (h:∀u s',Inv X pins σ H s'->RelV v u->Q u s'):wpAny (model X.prog X.w) A (getAttr (.ref a) f b) Q E s:=by
 obtain⟨mA,O,r,_,_,_⟩:=z3I I.hok e;obtain⟨u,i,d⟩:=z29.some_of (v:=v) (o:=mA f) (by rw [<-l];exact r f);exact get_map I.kIn O (c.get f) c.hd n i (z8N d) (h u _ (I.tok _) d)
theorem z2s{m:Str}{g:Addr}{pl:Sem Bool}{Q:Value×List Value->Shared->Prop}(I:Inv X pins σ H s)(e:H a=some (.ins C dx fs))(c:Cls X.K C)(k:Meth X.K C m g)(l:fs.lookup m=none)
  (h:Q (.ref g,[.ref a]) s):wpAny (model X.prog X.w) A (getMethod (.ref a) m pl) Q E s:=by
 obtain⟨mA,O,r,_,_,_⟩:=z3I I.hok e;have hn:mA m=none:=z29.none_of (by rw [<-l];exact r m);exact zb1 I.kIn O (c.get m) k.at_ k.fn hn h
theorem z7z{Q:Unit->Shared->Prop}(I:Inv X pins σ H s)(e:H a=some (.ins C dx fs))(c:Cls X.K C)(n:NoAttr X.K C f)(hl:fs.length < 1000)(l:RelV y u)
  (h:∀s',Inv X pins σ (upd H a (.ins C dx (yN f y fs))) s'->Q () s'):wpAny (model X.prog X.w) A (setAttr (.ref a) f u) Q E s:=by
 obtain⟨mA,O,r,wi,_,i⟩:=z3I I.hok e;have hz:(fs.map (·.1)).length<=sizeLine:=by rw [w9,QW];lia
 refine zca I.kIn O c.sa c.po n.taker c.hd wi hz λh' d j=>h _ ?_
 have hd:∃o,h'.get? dx=some o:=let ⟨o,_,_,e',_⟩:=d.ns;⟨o,e'⟩
 refine I.write (x:=a) (e:=dx) (by rw [e];exact w0l) (.inr i) (λb q p z=>(j.2 b p).trans z) hd ?_;refine⟨by rw [zn O.ne];exact i,?_,O.ne,d.obj,_,d.ns,λg=> ?_,λg t=> ?_⟩
 ·have:=z3k f y fs;lia
 ·show z29 ((yN f y fs).lookup g) (if g=f then some u else mA g)
  rw [z3l];by_cases q:g=f
  ·rw [wU q,wU q];exact l
  ·rw [wM q,wM q];exact r g
 ·by_cases q:g=f
  ·rw [q];exact(z36 f y fs).1
  ·refine(z36 f y fs).2 g (wi g λz=>t ?_)
   show(if g=f then some u else mA g)=none
   rw [wM q];exact z
theorem Inv.made(I:Inv X pins σ H s):Inv X pins σ (upd (upd H s.heap.objs.size (.own (s.heap.objs.size + 1))) (s.heap.objs.size + 1) (.ins C s.heap.objs.size []))
  {s with heap:=(s.heap.push PySem.W.emptyDict).push (PySem.W.instObj C s.heap.objs.size)}:=by
 have c:(s.heap.push PySem.W.emptyDict).get? s.heap.objs.size=some PySem.W.emptyDict:=qc s.heap rfl;have d:((s.heap.push PySem.W.emptyDict).push (PySem.W.instObj C s.heap.objs.size)).get? (s.heap.objs.size + 1)=some (PySem.W.instObj C s.heap.objs.size):=by
  have:=qc (s.heap.push PySem.W.emptyDict) (o:=PySem.W.instObj C s.heap.objs.size) rfl
  rwa [Qg]at this
 have h:(s.heap.push PySem.W.emptyDict).Ns s.heap.objs.size (λ_=>none):=⟨PySem.W.emptyDict,#[],_,c,rfl,(λe j=>absurd j (by simp)),λ_=>rfl⟩;have f:=I.laid (a:=s.heap.objs.size) (o:= .own (s.heap.objs.size + 1)) (h':=s.heap.push PySem.W.emptyDict) (t':=s.toks) (λb u q=>wm _ q) (ww _) ⟨_,c⟩;refine f.laid (a:=s.heap.objs.size + 1) (o:= .ins C s.heap.objs.size []) (t':=s.toks) (λb u q=>wm _ q) (Nat.le_of_eq (Qg _ _)) ?_;have ne:s.heap.objs.size≠s.heap.objs.size + 1:=q5 (w0m _);refine⟨by rw [zn ne,zj],qY _,ne,d,λ_=>none,(Heap.Ns1.of_empty h).at λo q=>wm _ q,λ_=>w0l,λy i=>absurd rfl i⟩
theorem zc3{env:Env}(a:attributeBase e f env (eval e env)=eval e env)
  (h:wpAny (model prog w) A (eval e env) (λo b=>wpAny (model prog w) A (getAttr o f true) Q E b) E s):wpAny (model prog w) A (eval (.Attribute e f pos) env) Q E s:=
 Attribute_any_ h (by rw [arm_eval_Attribute,a])
end
def zdZ(K:W.Frag)(ta:TE)(f:Str):TE:=λσ H Q=>ta σ H λx H1=>∃a C dx fs v,x= .ref a/\H1 a=some (.ins C dx fs)/\Cls K C/\NoAttr K C f/\fs.lookup f=some v/\Q v H1
def zdc(K:W.Frag)(ta tv:TE)(f:Str):TS:=λD σ H=>tv σ H λy H1=>ta σ H1 λx H2=>∃a C dx fs,x= .ref a/\H2 a=some (.ins C dx fs)/\Cls K C/\NoAttr K C f/\fs.length < 1000/\
 D.nx σ (upd H2 a (.ins C dx (yN f y fs)))
section
variable{o value:Expr}{f:Str}{pos' mX:Pos}{tv:TE}
theorem zE(i:PE X e ta)(j:attributeBase e f X.env (eval e X.env)=eval e X.env):PE X (.Attribute e f pos) (zdZ X.K ta f):=by
 intro pins s σ H Q I h;refine zc3 j (thn (i pins s σ H _ I h) ?_);rintro u s1 ⟨x,H1,b,p,a,C,dx,fs,v,ex,r,c,n,l,q⟩;subst ex;obtain rfl:u=Value.ref a:=p;exact z7F b r c n l λt s2 d o=>⟨v,H1,d,o,q⟩
theorem z0x(ha:PE X o ta)(j:PE X value tv)(hs:swapsWith value (some (.Attribute o f pos')) pos.line X.env=pure false):PS X (.Assign [.Attribute o f pos'] value pos) (zdc X.K ta tv f):=by
 intro pins s σ H D I h;refine plainObj_wpAny_Assign_Attribute (thn (j pins s σ H _ I h) ?_) hs;rintro u s1 ⟨y,H1,b,i,q⟩;refine thn (ha pins s1 σ H1 _ b q) ?_;rintro e s2 ⟨x,H2,d,t,a,C,dx,fs,ex,w,c,n,l,p⟩;subst ex;obtain rfl:e=Value.ref a:=t;exact z7z d w c n l i λz r=>⟨σ,_,r,p⟩
end
section
variable{σ:St}{c:Value}{b:Bool}
inductive TyOf (K:W.Frag) (H:Hp):V->Value->Prop where
 | non:TyOf K H .non (.type "NoneType")
 | bl (x:Bool):TyOf K H (.bl x) (.type "bool")
 | int (i:Int):TyOf K H (.int i) (.type "int")
 | str (x:Str):TyOf K H (.str x) (.type "str")
 | flt (x:UInt64):TyOf K H (.flt x) (.type "float")
 | lst {a:Addr} {xs:List V} (e:H a=some (.lst xs)):TyOf K H (.ref a) (.type "list")
 | frz {a:Addr} {o:Obj} {xs:List V} (e:H a=some (.frz o (.lst xs))):TyOf K H (.ref a) (.type "list")
 | tup {a:Addr} {xs:List V} (e:H a=some (.tup xs)):TyOf K H (.ref a) (.type "tuple")
 | dK {a:Addr} {kvs:List (Key×V)} (e:H a=some (.dK kvs)):TyOf K H (.ref a) (.type "dict")
 | dT {a:Addr} {kvs:List (List Key×V)} (e:H a=some (.dT kvs)):TyOf K H (.ref a) (.type "dict")
 | ins {a C dx:Addr} {fs:List (Str×V)} (e:H a=some (.ins C dx fs)) (cl:Cls K C) (ha:PySem.W.findIn K (.ref C) "__class__"=some (some (.builtin "object.__class__")))
   (hn:PySem.W.specialIn K (.builtin "object.__class__") "__get__"=some (some (.builtin "getset_descriptor.__get__"))) (rh:PySem.W.takesIn K (.builtin "object.__class__")=some true)
   (hm:PySem.W.mroIn K C (.type "object")=some true):TyOf K H (.ref a) (.ref C)
theorem z95{x:V}{t:Value}(I:Inv X pins σ H s)(d:RelV x u)(ty:TyOf X.K H x t)(e:PySem.W.kitOne X.K t c=some b)(h:∀tk,Q (.bool b) {s with toks:=tk}):
  wpAny (model X.prog X.w) A (call (.builtin "isinstance") [u,c]) Q E s:=by
 cases ty with
 | non=>cases (show u=Value.none from d);exact Qr PySem.W.kitx_none I.kIn w0l e (λz=>nomatch z) h
 | bl y=>cases (show u=Value.bool y from d);exact Qr PySem.W.kitx_bool I.kIn w0l e (λz=>nomatch z) h
 | int i=>obtain⟨t,q⟩:=(show∃t,u=Value.int i t from d);cases q;exact Qr PySem.W.kitx_int I.kIn w0l e (λz=>nomatch z) h
 | str y=>obtain⟨t,q⟩:=(show∃t,u=Value.str y t from d);cases q;exact Qr PySem.W.kitx_str I.kIn w0l e (λz=>nomatch z) h
 | flt y=>obtain⟨t,q⟩:=(show∃t,u=Value.float y t from d);cases q;exact Qr PySem.W.kitx_float I.kIn w0l e (λz=>nomatch z) h
 | @lst a xs f=>
  cases (show u=Value.ref a from d);obtain⟨_,_,n,_,h1⟩:=(show jj X.prog X.w H s.heap a (.lst xs)from I.hok a _ f);exact Qr PySem.W.kitx_list I.kIn ⟨_,h1,rfl⟩ e (λz=>nomatch z) h
 | @frz a j xs f=>
  cases (show u=Value.ref a from d);obtain⟨_,_,_,n,_,h1⟩:=(show jj X.prog X.w H s.heap a (.frz j (.lst xs))from I.hok a _ f);exact Qr PySem.W.kitx_list I.kIn ⟨_,h1,rfl⟩ e (λz=>nomatch z) h
 | @tup a xs f=>
  cases (show u=Value.ref a from d);obtain⟨_,_,_,p⟩:=(show jj X.prog X.w H s.heap a (.tup xs)from I.hok a _ f);obtain⟨o,h1,h2,_⟩:=p;exact Qr PySem.W.kitx_tuple I.kIn ⟨o,h1,h2⟩ e (λz=>nomatch z) h
 | @dK a kvs f=>
  cases (show u=Value.ref a from d);obtain⟨_,_,vs,_,p⟩:=(show jj X.prog X.w H s.heap a (.dK kvs)from I.hok a _ f);obtain⟨o,es,ep,h1,h2,_⟩:=p;exact Qr PySem.W.kitx_dict I.kIn ⟨o,h1,h2.1⟩ e (λz=>nomatch z) h
 | @dT a kvs f=>
  cases (show u=Value.ref a from d);obtain⟨_,_,xs,_,o,es,ep,h1,h2,_⟩:=(show jj X.prog X.w H s.heap a (.dT kvs)from I.hok a _ f);exact Qr PySem.W.kitx_dict I.kIn ⟨o,h1,h2.1⟩ e (λz=>nomatch z) h
 | @ins a C dx fs f cl ha hn rh hm=>
  cases (show u=Value.ref a from d);obtain⟨mA,O,_⟩:=z3I I.hok f;obtain⟨od,J,_⟩:=O.look;exact Qr (PySem.W.kitx_own (cl.get _) cl.hd ha hn rh hm) I.kIn J e (λz=>nomatch z) h
end
structure Room(k:Nat)(A:Around):Prop where
 hd:A.handled=none
 dp:A.depth + 3 * k + 5 < recursionLimit
 un:A.units + 16 * k + 200 < cLine
theorem Room.mono{j k:Nat}(r:Room k A)(h:j<=k):Room j A:=⟨r.hd,by have:=r.dp;lia,by have:=r.un;lia⟩
theorem Room.deeper{k:Nat}(r:Room (k + 1) A)(env:Env):Room k (A.deeper env):=
 ⟨r.hd,by have:=r.dp;show A.depth + 1 + 3 * k + 5 < _;lia,by have:=r.un;show A.units + 3 + 16 * k + 200 < _;lia⟩
theorem z7i:(A.under (.builtin "type.__call__" ⟨.ref C :: us,kw⟩)).depth=A.depth + 1:=by
 first | rfl | simp [Around.under,Code.weight,Code.isCreation,Code.isGuard,Code.isCaller,Code.frames,Code.isFrame,guardIds]
theorem z7q:(A.under (.builtin "type.__call__" ⟨.ref C :: us,kw⟩)).units=A.units + 1:=by
 first | rfl | simp [Around.under,Code.cUnits,Code.frames,Code.isFrame]
theorem Room.make{k:Nat}(r:Room (k + 1) A)(C:Addr)(us:List Value)(kw:List (Str×Value)):Room k (A.under (.builtin "type.__call__" ⟨.ref C :: us,kw⟩)):=
 ⟨r.hd,by have:=r.dp;rw [z7i];lia,by have:=r.un;rw [z7q];lia⟩
theorem Room.depth{k:Nat}(r:Room k A):A.depth < recursionLimit:=by have:=r.dp;lia
theorem Room.units{k:Nat}(r:Room k A):A.units + 64 < cLine:=by have:=r.un;lia
def zdg:TA:=λ_ H Q=>Q [] H
def z1K(ta:TE)(tr:TA):TA:=λσ H Q=>ta σ H λx H1=>tr σ H1 λxs H2=>Q (x :: xs) H2
variable{t:TA}
def zd:PA X [] zdg:=λ_ _ _ _ H Q I h=>w0X ⟨[],H,I,.nil,h⟩
theorem zO(ha:PE X e te)(hr:PA X es t)(hs:starEach (e :: es) X.env=(false,eval e X.env) :: starEach es X.env:=by rfl):PA X (e :: es) (z1K te t):=by
 intro pos pins s σ H Q I h;rw [hs]
 show wpAny _ _ (spliced ((false,eval e X.env) :: backTo pos (starEach es X.env))) _ _ s
 refine QU (thn (ha pins s σ H _ I h) ?_);rintro u s1 ⟨x,H1,a,r1,d⟩;exact thn (hr pos pins s1 σ H1 _ a d) λus s2 ⟨xs,H2,b,r2,c⟩=>⟨x :: xs,H2,b,.cons r1 r2,c⟩
def zeR(t:TA):TE:=λσ H Q=>t σ H λxs H1=>xs.length<=sizeLine/\∀p,H1 p=none->Q (.ref p) (upd H1 p (.tup xs))
def zeK(t:TA):TE:=λσ H Q=>t σ H λxs H1=>xs.length<=sizeLine/\∀p,H1 p=none->Q (.ref p) (upd H1 p (.lst xs))
theorem zC{x1}(h:PA X es t):PE X (.Tuple es x1 pos) (zeR t):=by
 intro pins s σ H Q I hq;refine wpAny_Tuple_spliced (thn (h pos pins s σ H _ I hq) ?_);rintro us s1 ⟨xs,H1,a,r,z,q⟩;refine⟨by rw [<-r.length];exact z,?_⟩;have c:H1 s1.heap.objs.size=none:=a.hok.fresh (ww _);refine⟨.ref s1.heap.objs.size,upd H1 s1.heap.objs.size (.tup xs),a.laid (t':=s1.toks) (λb u e=>wm _ e) (ww _) ?_,rfl,q _ c⟩;exact⟨z,us,r,⟨_,qc _ rfl,rfl,_,rfl⟩⟩
theorem zx(h:PA X es t):PE X (.List es pos) (zeK t):=by
 intro pins s σ H Q I hq;refine wpAny_List_spliced (thn (h pos pins s σ H _ I hq) ?_);rintro us s1 ⟨xs,H1,a,r,z,q⟩;refine⟨by rw [<-r.length];exact z,?_⟩;have c:H1 s1.heap.objs.size=none:=a.hok.fresh (ww _);refine⟨.ref s1.heap.objs.size,upd H1 s1.heap.objs.size (.lst xs),a.laid (t':=s1.toks) (λb u e=>wm _ e) (ww _) ?_,rfl,q _ c⟩;exact⟨z,us,0,r,qc _ rfl⟩
abbrev Sp:=List V->Hp->VK->XK->Prop
abbrev CXT:=List Env->Hp->Shared->XK->Value->Shared->Prop
structure Env0(P:Program)(w:World)(K:W.Frag)(mg:Str->Option Value)(base:Heap)(A:Around)(outer:List Env)(s:Shared)(H:Hp):Prop where
 frames:A.frames=some outer
 mod:Mod K mg base
 bs:∀b o,base.get? b=some o->s.heap.get? b=some o/\H b=none
 bsz:base.objs.size<=s.heap.objs.size
 funs:s.heap.FunFrames base outer
 frf:∀b∈frs outer,H b=none
 hok:HOk P w H s.heap
 bare:AllBare s.gens
def CE(outer:List Env)(P:Program)(w:World)(H:Hp)(s:Shared)(Q:VK)(u:Value)(s':Shared):Prop:=
 ∃v H',s'.os=s.os/\AllBare s'.gens/\Un (frs outer) [] H H' s.heap s'.heap/\HOk P w H' s'.heap/\RelV v u/\Q v H'
def CR(CX:CXT)(outer:List Env)(P:Program)(w:World)(H:Hp)(s:Shared)(Q:VK)(E:XK)(r:Result)(s':Shared):Prop:=
 match r with
 | .ok (.ret u)=>CE outer P w H s Q u s'
 | .ok _=>False
 | .error e=>CX outer H s E e s'
structure FnOk(P:Program)(w:World)(K:W.Frag)(mg:Str->Option Value)(base:Heap)(CX:CXT)(k:Nat)(f:Addr)(fd:FuncData)(ps:List Str)(sp:Sp):Prop where
 len:∀vs H Q E,sp vs H Q E->vs.length=ps.length
 run:∀(A:Around) (outer:List Env) (s:Shared) (H:Hp) (args:Args) (us:List Value) (vs:List V) (Q:VK) (E:XK),Room k A->Env0 P w K mg base A outer s H->BindsTo s fd args (ps.zip us)->zP vs us->sp vs H Q E->
  codeAny (model P w) A (.call (.ref f) args) (CR CX outer P w H s Q E) s
variable{mg:Str->Option Value}{base:Heap}{outer:List Env}
theorem Env0.make(e:Env0 P w K mg base A outer s H)(C:Addr)(us:List Value)(kw:List (Str×Value)):
  Env0 P w K mg base (A.under (.builtin "type.__call__" ⟨.ref C :: us,kw⟩)) outer s H:=⟨by first | exact e.frames | (simpa [Around.under,Code.envs,Code.isFrame,pushEnvs]using e.frames),e.mod,e.bs,e.bsz,e.funs,e.frf,e.hok,e.bare⟩
section
variable{σ:St}
def Inv.env0(I:Inv X pins σ H s):Env0 X.prog X.w X.K X.mg X.base X.A X.stack s H:=
 ⟨I.ok.frames,I.ok.mod,I.bs,wV I.ok.bsz I.sz,I.stack,I.stkFree,I.hok,I.bare⟩
theorem Inv.after{Q:VK}(I:Inv X pins σ H s)(h:CE X.stack X.prog X.w H s Q u s'):EP X pins σ Q u s':=by
 obtain⟨v,H',os,bare,un,hok,r,q⟩:=h;obtain⟨a,g,d,t,c⟩:=s';obtain rfl:c=s.os:=os;exact⟨v,H',I.call (h':=a) (g':=g) (d':=d) (t':=t) (ch:= []) un hok bare (λb z=>absurd z (by simp)),r,q⟩
end
def zay(sp:Sp)(bo:List V)(E:XK)(t:TA):TE:=λσ H Q=>t σ H λvs H1=>sp (vs ++ bo) H1 Q E
def z8t(C:Addr)(m:Str)(sp:Sp)(bo:List V)(E:XK)(ta:TE)(t:TA):TE:=λσ H Q=>ta σ H λx H1=>∃a dx fs,x= .ref a/\H1 a=some (.ins C dx fs)/\fs.lookup m=none/\
 t σ H1 λvs H2=>sp (x :: (vs ++ bo)) H2 Q E
def zct(C:Addr)(sp:Sp)(bo:List V)(E:XK)(t:TA):TE:=λσ H Q=>t σ H λvs H1=>∀x dx,H1 x=none->H1 dx=none->dx≠x->
 sp (.ref x :: (vs ++ bo)) (upd (upd H1 dx (.own x)) x (.ins C dx [])) (λv H2=>v= .non/\Q (.ref x) H2) E
def Binds(K:W.Frag)(fd:FuncData)(ps:List Str)(ds:List Value):Prop:=
 ∀(s:Shared) (us:List Value),K.In s.heap->(us ++ ds).length=ps.length->BindsTo s fd ⟨us,[]⟩ (ps.zip (us ++ ds))
variable{fd:FuncData}{ps:List Str}
theorem Binds.all(h:∀us:List Value,us.length=ps.length->bindArgs fd ⟨us,[]⟩=pure (ps.zip us)):Binds K fd ps []:=λs us _ hl=>by
 rw [Qb]at hl ⊢;exact .of_eq (h us hl)
def z1e(CX:CXT)(X:Cx)(E:XK):Prop:=∀(pins:List (Addr×Obj)) (σ:St) (H:Hp) (s:Shared) (e:Value) (s':Shared),Inv X pins σ H s->CX X.stack H s E e s'->X.xe e s'
variable{vs:List V}{CX:CXT}{sp:Sp}
section
variable{k:Nat}{f:Addr}{bo:List V}{ds:List Value}{E:XK}{m:Str}{apos:Pos}{o:Expr}
theorem z7K{Q:VK}(F:FnOk X.prog X.w X.K X.mg X.base CX k f fd ps sp)(hr:Room k X.A)(a:Binds X.K fd ps ds)(hd:zP bo ds)(c:z1e CX X E)
  (I:Inv X pins σ H s) (r:zP vs us) (h:sp (vs ++ bo) H Q E):wpAny (model X.prog X.w) X.A (call (.ref f) us) (EP X pins σ Q) X.xe s:=by
 have r2:zP (vs ++ bo) (us ++ ds):=r.append hd;have hl:(us ++ ds).length=ps.length:=by rw [<-r2.length];exact F.len _ _ _ _ h
 refine w1x (w0p (F.run X.A X.stack s H ⟨us,[]⟩ (us ++ ds) (vs ++ bo) Q E hr I.env0 (a s us I.kIn hl) r2 h) λr s' hq=> ?_);cases r with
 | error e=>exact c pins σ H s e s' I hq
 | ok b=>
  cases b with
  | ret u=>exact I.after hq
  | next=>exact False.elim hq
  | brk=>exact False.elim hq
  | cont=>exact False.elim hq
theorem zbw(F:FnOk X.prog X.w X.K X.mg X.base CX k f fd ps sp)(hr:Room k X.A)(n:Gl X x)(hm:X.mg x=some (.ref f))(l:PySem.W.keepIn X.K (.ref f)=true)(c:Binds X.K fd ps ds)(hd:zP bo ds)(d:z1e CX X E)
  (ha:PA X (e :: es) t) (i:(x == ("__debug__":Str))=false:=by decide) (b:starEach (e :: es) X.env=(false,eval e X.env) :: starEach es X.env:=by rfl) (j:(backTo pos (starEach es X.env)).any (·.1)=false:=by rfl):
  PE X (.Call (.Name x p) (e :: es) [] pos) (zay sp bo E t):=by
 intro pins s σ H Q I h;refine Ql (z2O I n hm ?_ i);refine w0N (h₀:=X.base) I.ok.mod.kin l (thn (ha pos pins s σ H _ I h) ?_) b j;rintro us s1 ⟨vs,H1,a,r,q⟩;refine⟨a.kIn,?_⟩;exact z7K F hr c hd d a r q
theorem zc8{pl:Sem Bool}(j:PE X o ta)(c:Cls X.K C)(hm:Meth X.K C m f)(F:FnOk X.prog X.w X.K X.mg X.base CX k f fd ps sp)(hr:Room k X.A)(n:Binds X.K fd ps ds)(hd:zP bo ds)(p:z1e CX X E)(ha:PA X (e :: es) t)
  (y:starEach (e :: es) X.env=(false,eval e X.env) :: starEach es X.env:=by rfl) (z:(backTo pos (starEach es X.env)).any (·.1)=false:=by rfl)
  (ht:eval (.Call (.Attribute o m apos) (e :: es) [] pos) X.env=(do
   let i<-eval o X.env
   standAt apos.atName
   let (f,first)<-holding [i] (getMethod i m pl)
   callWith pos f first (backTo pos (starEach (e :: es) X.env)) (backToKw pos (keywordEach [] X.env))):=by rfl):
  PE X (.Call (.Attribute o m apos) (e :: es) [] pos) (z8t C m sp bo E ta t):=by
 intro pins s σ H Q I h;refine PySem.W.methodCall_KW (pl:=pl) (thn (j pins s σ H _ I h) ?_) ht;rintro u s1 ⟨x,H1,b,D,a,dx,fs,ex,G,l,q⟩;subst ex;obtain rfl:u=Value.ref a:=D;refine z2s b G c hm l ?_;refine w0N (first:= [.ref a]) (h₀:=X.base) I.ok.mod.kin hm.kp (thn (ha pos pins s1 σ H1 _ b q) ?_) y z;rintro us s2 ⟨vs,H2,d,r,B⟩;refine⟨d.kIn,?_⟩;exact z7K (us:= .ref a :: us) (vs:= .ref a :: vs) F hr n hd p d (.cons rfl r) B
theorem za2{pl:Sem Bool}(e:PE X o ta)(c:Cls X.K C)(hm:Meth X.K C m f)(F:FnOk X.prog X.w X.K X.mg X.base CX k f fd ps sp)(hr:Room k X.A)(i:Binds X.K fd ps ds)(hd:zP bo ds)(j:z1e CX X E)
  (ht:eval (.Call (.Attribute o m apos) [] [] pos) X.env=(do
   let d<-eval o X.env
   standAt apos.atName
   let (f,first)<-holding [d] (getMethod d m pl)
   callWith pos f first (backTo pos (starEach [] X.env)) (backToKw pos (keywordEach [] X.env))):=by rfl):
  PE X (.Call (.Attribute o m apos) [] [] pos) (z8t C m sp bo E ta zdg):=by
 intro pins s σ H Q I h;refine PySem.W.methodCall_KW (pl:=pl) (thn (e pins s σ H _ I h) ?_) ht;rintro u s1 ⟨x,H1,b,n,a,dx,fs,ex,p,l,q⟩;subst ex;obtain rfl:u=Value.ref a:=n;refine z2s b p c hm l ?_;exact PySem.W.callWith_K0 (first:= [.ref a]) b.kIn hm.kp (z7K (us:= [.ref a]) (vs:= [.ref a]) F hr i hd j b (.cons rfl .nil) q)
structure Mk(K:W.Frag)(C f:Addr):Prop where
 makes:PySem.W.makesIn K C=true
 init:PySem.W.findIn K (.ref C) "__init__"=some (some (.ref f))
 fn:PySem.W.isFn K (.ref f)=true
 kp:PySem.W.keepIn K (.ref C)=true
theorem zaT{Q:VK}(M:Mk X.K C f)(F:FnOk X.prog X.w X.K X.mg X.base CX k f fd ps sp)(hr:Room (k + 1) X.A)(c:Binds X.K fd ps ds)(hd:zP bo ds)
  (i:z1e CX X E) (I:Inv X pins σ H s) (r:zP vs us)
  (h:∀x dx,H x=none->H dx=none->dx≠x->sp (.ref x :: (vs ++ bo)) (upd (upd H dx (.own x)) x (.ins C dx [])) (λv H2=>v= .non/\Q (.ref x) H2) E):
  wpAny (model X.prog X.w) X.A (call (.ref C) us) (EP X pins σ Q) X.xe s:=by
 have hq:=h (s.heap.objs.size + 1) s.heap.objs.size (I.hok.fresh (Nat.le_succ _)) (I.hok.fresh (ww _)) (q5 (w0m _));have b:=Inv.made (C:=C) I;have r2:zP (V.ref (s.heap.objs.size + 1) :: (vs ++ bo)) (Value.ref (s.heap.objs.size + 1) :: (us ++ ds)):= .cons rfl (r.append hd);have hl:(Value.ref (s.heap.objs.size + 1) :: us ++ ds).length=ps.length:=by
  have e:=r2.length;rw [F.len _ _ _ _ hq]at e;exact e.symm
 refine w1x (z9O (f:=f) I.kIn M.makes M.init (Qi.mp M.fn) (w0p (F.run _ X.stack _ _ ⟨Value.ref (s.heap.objs.size + 1) :: us,[]⟩ (Value.ref (s.heap.objs.size + 1) :: (us ++ ds)) _ _ E (hr.make C us [])
  (b.env0.make C us []) (c _ (Value.ref (s.heap.objs.size + 1) :: us) b.kIn hl) r2 hq) λr s' a=> ?_))
 cases r with
 | error e=>exact i pins σ _ _ e s' b a
 | ok l=>
  cases l with
  | ret u=>
   obtain⟨v,H',n,d,ev,j⟩:=b.after a;subst ev;exact⟨d,⟨V.ref (s.heap.objs.size + 1),H',n,rfl,j⟩⟩
  | next=>exact False.elim a
  | brk=>exact False.elim a
  | cont=>exact False.elim a
theorem zbE(M:Mk X.K C f)(F:FnOk X.prog X.w X.K X.mg X.base CX k f fd ps sp)(hr:Room (k + 1) X.A)(l:Gl X x)(hm:X.mg x=some (.ref C))(c:Binds X.K fd ps ds)(hd:zP bo ds)(d:z1e CX X E)
  (ha:PA X (e :: es) t) (i:(x == ("__debug__":Str))=false:=by decide) (b:starEach (e :: es) X.env=(false,eval e X.env) :: starEach es X.env:=by rfl) (j:(backTo pos (starEach es X.env)).any (·.1)=false:=by rfl):
  PE X (.Call (.Name x p) (e :: es) [] pos) (zct C sp bo E t):=by
 intro pins s σ H Q I h;refine Ql (z2O I l hm ?_ i);refine w0N (h₀:=X.base) I.ok.mod.kin M.kp (thn (ha pos pins s σ H _ I h) ?_) b j;rintro us s1 ⟨vs,H1,a,r,q⟩;refine⟨a.kIn,?_⟩;exact zaT M F hr c hd d a r q
end
section
variable{k:Nat}{f:Addr}{ks:List Str}{E:XK}{m:Str}{apos uD:Pos}{o:Expr}{Ci:List Keyword}{tk:TA}{nm:Option Str}
structure KBinds(K:W.Frag)(fd:FuncData)(ps ks:List Str)(g:List Value->List Value->List Value)(gV:List V->List V->List V):Prop where
 to:∀(s:Shared) (us ws:List Value),K.In s.heap->(g us ws).length=ps.length->BindsTo s fd ⟨us,ks.zip ws⟩ (ps.zip (g us ws))
 rel:∀{vs:List V} {us:List Value} {zs:List V} {ws:List Value},zP vs us->zP zs ws->zP (gV vs zs) (g us ws)
variable{g:List Value->List Value->List Value}{gV:List V->List V->List V}
end
structure FnScope(N P:List Str)(sc:Scope):Prop where
 kind:sc.kind= .function
 co:sc.isCoroutine=false
 gen:sc.isGenerator=false
 nd:N.Nodup
 pre:N.take P.length=P
 par:∀x∈P,sc.names.lookup x=some .local\/sc.names.lookup x=some .cell
 nofree:∀y∈sc.names,y.2≠ .free
theorem z5e{kindOf:Str->Option NameKind}{x:Str}:∀{binds:List (Str×Value)} {m:Str->Option Value},(∀v,(x,v)∉binds)->bindL kindOf binds m x=m x
 | [],_,_=>rfl
 | (n,v) :: r,m,h=>by
  unfold bindL;rw [z5e λw a=>h w (wY _ a)];split
  ·have:x≠n:=by rintro rfl;exact h v qE
   simp [this]
  ·rfl
theorem z5t{kindOf:Str->Option NameKind}{x:Str}:∀{binds:List (Str×Value)} {m:Str->Option Value},(∀v,(x,v)∉binds)->bindC kindOf binds m x=m x
 | [],_,_=>rfl
 | (n,v) :: r,m,h=>by
  unfold bindC;rw [z5t λw a=>h w (wY _ a)];split
  ·rfl
  ·have:x≠n:=by rintro rfl;exact h v qE
   simp [this]
theorem z5c{kindOf:Str->Option NameKind}{x:Str}{v:Value}:∀{P:List Str} {vs:List Value} {i:Nat} {m:Str->Option Value},P.Nodup->P[i]? =some x->vs[i]? =some v->kindOf x=some .local->
  bindL kindOf (P.zip vs) m x=some v
 | [],_,_,_,_,h,_,_=>by simp at h
 | _ :: _,[],_,_,_,_,h,_=>by simp at h
 | p :: P,w :: vs,0,m,nd,h1,h2,a=>by
  simp at h1 h2;subst h1;subst h2
  show bindL kindOf ((p,w) :: P.zip vs) m p=_
  unfold bindL;rw [z5e λv b=>(w0e.mp nd).1 (List.of_mem_zip b).1,wU a];simp
 | p :: P,w :: vs,i + 1,m,nd,h1,h2,a=>by
  show bindL kindOf ((p,w) :: P.zip vs) m x=_
  unfold bindL;exact z5c (i:=i) (w0e.mp nd).2 (by simpa using h1) (by simpa using h2) a
theorem z5k{kindOf:Str->Option NameKind}{x:Str}{v:Value}:∀{P:List Str} {vs:List Value} {i:Nat} {m:Str->Option Value},P.Nodup->P[i]? =some x->vs[i]? =some v->kindOf x≠some .local->
  bindC kindOf (P.zip vs) m x=some v
 | [],_,_,_,_,h,_,_=>by simp at h
 | _ :: _,[],_,_,_,_,h,_=>by simp at h
 | p :: P,w :: vs,0,m,nd,h1,h2,a=>by
  simp at h1 h2;subst h1;subst h2
  show bindC kindOf ((p,w) :: P.zip vs) m p=_
  unfold bindC;rw [z5t λv b=>(w0e.mp nd).1 (List.of_mem_zip b).1,wM a];simp
 | p :: P,w :: vs,i + 1,m,nd,h1,h2,a=>by
  show bindC kindOf ((p,w) :: P.zip vs) m x=_
  unfold bindC;exact z5k (i:=i) (w0e.mp nd).2 (by simpa using h1) (by simpa using h2) a
noncomputable def start(N:List Str)(vs:List V):St:=vs.map some ++ List.replicate (N.length - vs.length) none
noncomputable def z38(CX:CXT)(P:Program)(w:World)(K:W.Frag)(mg:Str->Option Value)(base:Heap)(N:List Str)(qual:Str)(scope:Scope)(f:Addr)(cd:Value)(A:Around)(outer:List Env)(s:Shared)(H:Hp)(E:XK):Cx where
 prog:=P
 w:=w
 K:=K
 mg:=mg
 base:=base
 A:=A.deeper (envOfC qual scope s.heap.objs.size f cd)
 N:=N
 s₀:=s
 H₀:=H
 env:=envOfC qual scope s.heap.objs.size f cd
 outer:=outer
 stack:=envOfC qual scope s.heap.objs.size f cd :: outer
 ex:= []
 calm:=true
 fn:=λ_=>true
 pn:= []
 xe:=λe s'=>wpAny (model P w) (A.deeper (envOfC qual scope s.heap.objs.size f cd)) (leaving (envOfC qual scope s.heap.objs.size f cd) e) (λ_ a=>CX outer H s E e a) (λb a=>CX outer H s E b a) s'
theorem z6T{sc:Scope}(h:sc.names.lookup x=some .cell):∃c,(cellsFrom n sc.names []).lookup x=some c:=by
 have q:=PySem.W.cellsFrom_some sc.names n [] (.inl h);exact Option.isSome_iff_exists.mp q
variable{scope:Scope}
theorem z53{qual:Str}{f:Addr}{cd:Value}{s1:Shared}{E:XK}
  (S:FnScope N ps scope) (hd:A.handled=none) (d:Env0 P w K mg base A outer s H) (hl:vs.length=ps.length) (r:zP vs us)
  (x:InCallC s s.heap.objs.size (bindL (envOfC qual scope s.heap.objs.size f cd).kindOf (ps.zip us) λ_=>none) (cellsFrom (s.heap.objs.size + 1) scope.names []) (bindC (envOfC qual scope s.heap.objs.size f cd).kindOf (ps.zip us) λ_=>none) s1):
  Inv (z38 CX P w K mg base N qual scope f cd A outer s H E) [] (start N vs) H s1:=by
 have C:ps.length<=N.length:=by have:=Qa List.length S.pre;rw [wS]at this;lia
 obtain⟨h1,tk,rfl,l⟩:=x.done;have j:∀b:Addr,b∉(z38 CX P w K mg base N qual scope f cd A outer s H E).ex:=λb z=>absurd (show b∈([]:List Addr)from z) (by simp)
 refine⟨⟨d.mod,S.kind,rfl,rfl,ww _,λy z c h1 h2=> ?_,λy hy=> ?_,λy c _ h=> ?_,λ_=>hd,Around.frames_deeper d.frames,.inr ⟨rfl,rfl⟩,λb z=>absurd z (j b),d.bs,d.bsz,λb _ _=>j b,λb z=>absurd z (j b),d.funs,d.frf⟩,
  rfl,d.bare,Un.kept l,⟨_,x.toInCall.ns,λi y v h1 h2 D=> ?_⟩,λy c h=>⟨_,x.cell y c h⟩,d.hok.fresh (ww _),λy c h=> ?_,λp hp=>absurd (show p∈([]:List (Addr×Obj))from hp) (by simp),d.hok.kept l,?_⟩
 ·exact name_of_addr x.apart (Qd h1) (Qd h2)
 ·have hy:scope.names.lookup y=some .cell\/scope.names.lookup y=some .free:=hy;rcases hy with hy | hy
  ·exact z6T hy
  ·exact absurd rfl (S.nofree _ (Qd hy))
 ·exact w1t (x.above y c (Qd h))
 ·have hi:i < vs.length:=by
   unfold start at h2;by_cases hi:i < vs.length
   ·exact hi
   ·rw [Q7 (by simpa using hi)]at h2;rw [List.getElem?_replicate]at h2;split at h2 <;> cases h2
  have ha:vs[i]? =some v:=by
   unfold start at h2;rw [Qt (by simpa using hi),wO]at h2;cases e:vs[i]? with
   | none=>rw [e]at h2;cases h2
   | some a=>rw [e]at h2;cases h2;rfl
  obtain⟨u,o,B⟩:=r.get ha;have hp:ps[i]? =some y:=by
   rw [<-S.pre,List.getElem?_take_of_lt (by lia)];exact h1
  have t:ps.Nodup:=by rw [<-S.pre];exact S.nd.sublist (List.take_sublist _ _)
  refine⟨u,B,?_⟩;rcases S.par y (qD hp)with k | k
  ·exact .inl ⟨k,z5c t hp o k⟩
  ·obtain⟨c,e⟩:=z6T (n:=s.heap.objs.size + 1) k;refine .inr ⟨.inl k,c,e,?_⟩;have q:=x.cell y c e;rw [z5k t hp o (by show scope.names.lookup y≠_;rw [k];decide)]at q;exact q
 ·exact d.hok.fresh (w1t (x.above y c (Qd h)))
 ·unfold start
  show _=N.length
  rw [wb,w9,w0q]
  lia
theorem zcu{k:Nat}{f:Addr}{name qual:Str}{params:Arguments}{i kV aR pm ac ct oc:Value}{an od:Option Addr}
  {cu:Array (Option Value)}   (j:K.lookup f=some ⟨oc,od,.func (PySem.W.fnOf name qual params body scope i kV aR pm an ac ct),cu⟩) (B:PySem.W.codeIn K ac qual=true) (S:FnScope N ps scope)
  (len:∀vs H Q E,sp vs H Q E->vs.length=ps.length)
  (C:∀(A:Around) (outer:List Env) (s:Shared) (H:Hp) (vs:List V) (Q:VK) (E:XK),Room k (A.deeper (envOfC qual scope s.heap.objs.size f ac))->sp vs H Q E->
   ∃t,PSs (z38 CX P w K mg base N qual scope f ac A outer s H E) body t/\t {nx:=λ_ H'=>Q .non H',rt:=Q} (start N vs) H):
  FnOk P w K mg base CX (k + 1) f (PySem.W.fnOf name qual params body scope i kV aR pm an ac ct) ps sp:=by
 refine⟨len,λA outer s H args us vs Q E hr a p r d=> ?_⟩;have hl:=len _ _ _ _ d;have h:K.In s.heap:=a.mod.kin.keeps λb o e=>(a.bs b o e).1
 have z:s.heap.NoLimit:=a.mod.nolimit.keeps λb o e=>(a.bs b o e).1
 have G:∀y∈ps.zip us,scope.names.lookup y.1=some .local\/(scope.names.lookup y.1=some .cell/\((cellsFrom (s.heap.objs.size + 1) scope.names []).lookup y.1).isSome=true):=λ⟨n,v⟩ D=>by
  rcases S.par n (List.of_mem_zip D).1 with q | q
  ·exact .inl q
  ·exact .inr ⟨q,PySem.W.cellsFrom_some _ _ _ (.inl q)⟩
 refine codeAny_call_function hr.depth (h _ _ j) rfl S.co S.gen rfl (PySem.W.codeRec_of h B) (p _ _ _ _ ?_);refine wpAny_newFunctionEnv_cells S.kind G λenv l s1 x=> ?_
 subst l;refine⟨z.keeps x.toInCall.keep,codeAny_func ?_⟩;obtain⟨t,ht,hq⟩:=C A outer s H vs Q E (hr.deeper _) d;have I:Inv (z38 CX P w K mg base N qual scope f ac A outer s H E) [] (start N vs) H s1:=z53 S hr.hd a hl r x;refine QK (ht [] s1 (start N vs) H _ I hq) (λF s' hs=> ?_) λe s' hs=>hs
 have fin:∀{σ':St} {H':Hp} {v:V} {u:Value},Inv (z38 CX P w K mg base N qual scope f ac A outer s H E) [] σ' H' s'->RelV v u->Q v H'->CE outer P w H s Q u s':=
  λ{σ' H' v u} J c q=>⟨v,H',J.os,J.bare,J.base,J.hok,c,q⟩
 cases F with
 | ret u=>
  obtain⟨v,σ',H',J,c,q⟩:=hs;exact fin J c q
 | next=>
  obtain⟨σ',H',J,q⟩:=hs;exact fin (v:=V.non) (u:=Value.none) J rfl q
 | brk=>
  obtain⟨_,_,_,q⟩:=hs;exact False.elim q
 | cont=>
  obtain⟨_,_,_,q⟩:=hs;exact False.elim q
section
variable{id T:String}{r:List V->Hp->VK->Prop}
def tCB(r:List V->Hp->VK->Prop)(t:TA):TE:=λσ H Q=>t σ H λvs H1=>r vs H1 Q
theorem zQ(hc:yZ X (.builtin id) r)(j:Gl X x)(hm:X.mg x=none)(d:bootBuiltins x=some (.builtin id))(ha:PA X (e :: es) t)(hn:x≠"__name__":=by decide)(c:(x == ("__debug__":Str))=false:=by decide)
  (b:starEach (e :: es) X.env=(false,eval e X.env) :: starEach es X.env:=by rfl) (f:(backTo pos (starEach es X.env)).any (·.1)=false:=by rfl):PE X (.Call (.Name x p) (e :: es) [] pos) (tCB r t):=by
 intro pins s σ H Q I h;refine Ql (z1q I j hm d ?_ hn c);exact PyProof.Rows.callWith_builtin1 (thn (ha pos pins s σ H _ I h) λus s1 ⟨vs,H1,a,r1,i⟩=>hc pins s1 σ H1 vs us Q a r1 i) b f
theorem je(hc:yZ X (.type T) r)(j:Gl X x)(hm:X.mg x=none)(d:bootBuiltins x=some (.type T))(ha:PA X (e :: es) t)(hn:x≠"__name__":=by decide)(c:(x == ("__debug__":Str))=false:=by decide)
  (b:starEach (e :: es) X.env=(false,eval e X.env) :: starEach es X.env:=by rfl) (f:(backTo pos (starEach es X.env)).any (·.1)=false:=by rfl):PE X (.Call (.Name x p) (e :: es) [] pos) (tCB r t):=by
 intro pins s σ H Q I h;refine Ql (z1q I j hm d ?_ hn c);exact Q3 (thn (ha pos pins s σ H _ I h) λus s1 ⟨vs,H1,a,r1,i⟩=>hc pins s1 σ H1 vs us Q a r1 i) b f
end
end L2
namespace HT
open PySem PyProof.Rows
section
open PySem.SeqAt
open PySem.AutoSeq1 (wpAny_loadPart')
open PySem.MeetsSeq PySem.MeetsSeq2 PySem.MeetsSeq3
end
variable{Q:Value->Shared->Prop}
section
variable{prog:Program}{w:World}{A:Around}{E:Value->Shared->Prop}{s:Shared}
theorem cat_tup{t b:Addr}{vs ws:List Value}(ht:IsTup s.heap t vs.toArray)(o:IsTup s.heap b ws.toArray)(f:vs≠ [])
  (h1:ws= []->Q (.ref t) s) (h2:ws≠ []->Q (.ref s.heap.objs.size) {s with heap:=s.heap.push {cls:= .type "tuple",data:= .seq (vs ++ ws).toArray}})
  (hsz:vs.length + ws.length<=sizeLine):wpAny (model prog w) A (binaryOp .Add (.ref t) (.ref b)) Q E s:=by
 obtain⟨⟨cls,l,data,sl⟩,a,hc,n,hd⟩:=id ht;obtain⟨⟨p,d,data2,sl2⟩,c,h,i,j⟩:=id o;simp only at hc hd h j;subst hc hd h j;have e:vs.toArray ++ ws.toArray=(vs ++ ws).toArray:=by simp
 by_cases hw:ws= []
 ·exact concat_meets ⟨_,a,rfl⟩ ⟨_,c,rfl⟩ noFill_tuple_add seq_tuple_add PySem.F.slot_tuple_add PySem.F.entry_tuple_add (PySem.F.args_tuple_add_2 _ _)
   (tuple_addW1 t b vs.toArray ws.toArray n i l d sl sl2 (by simpa using f) (by simp [hw])) ⟨a,c,h1 hw⟩
 ·refine concat_meets ⟨_,a,rfl⟩ ⟨_,c,rfl⟩ noFill_tuple_add seq_tuple_add PySem.F.slot_tuple_add PySem.F.entry_tuple_add (PySem.F.args_tuple_add_2 _ _)
   (tuple_addW2 t b vs.toArray ws.toArray n i l d sl sl2 (by simpa using f) (by simpa using hw) (by rw [wy,wy];exact hsz)) ⟨a,c,?_⟩
  rw [e];exact h2 hw
noncomputable def sIx(n d:Nat):Option Int->Nat
 | none=>d
 | some v=>if v < 0 then(v + (n:Int)).toNat else min v.toNat n
theorem sIx_none(n d:Nat):sIx n d none=d:=rfl
theorem zcZ(n d:Nat)(hd:d<=n)(o:Option Int):sIx n d o<=n:=by
 cases o with
 | none=>exact hd
 | some v=>
  show(if v < 0 then(v + (n:Int)).toNat else min v.toNat n)<=n
  by_cases hv:v < 0
  ·rw [wU hv];lia
  ·rw [wM hv];exact Nat.min_le_right _ _
theorem z8r(v:Int)(n d:Nat):(if v < 0 then max (v + (n:Int)) 0 else min v (n:Int))=((sIx n d (some v):Nat):Int):=by
 show(if v < 0 then max (v + (n:Int)) 0 else min v (n:Int))=(((if v < 0 then(v + (n:Int)).toNat else min v.toNat n):Nat):Int)
 by_cases hv:v < 0
 ·simp only [wU hv];lia
 ·simp only [wM hv];lia
theorem z7T(lo hi:Option Int)(n:Nat):Builtin.Slice.sliceAdjust lo hi 1 (n:Int)=(((sIx n 0 lo:Nat):Int),((sIx n n hi:Nat):Int)):=by
 have h1:¬((1:Int) < 0):=by lia
 unfold Builtin.Slice.sliceAdjust;simp only [h1,w0v];refine Prod.ext ?_ ?_
 ·cases lo with
  | none=>rfl
  | some v=>exact z8r v n 0
 ·cases hi with
  | none=>rfl
  | some v=>exact z8r v n n
theorem z7e(i j:Nat):Builtin.Slice.slicePlaces (i:Int) (j:Int) 1=j - i:=by
 unfold Builtin.Slice.slicePlaces;have h1:(1:Int) > 0:=by lia
 simp only [h1,w0M,Int.ediv_one];split <;> lia
theorem z41{v:Value}{o:Option Int}{Q:Option Int->Shared->Prop}(p:IsPart v o)(h:Q o s):wpAny (model prog w) A (Builtin.Slice.slicePartIndex v) Q E s:=by
 cases p with
 | none=>exact slicePart_none h
 | int i t=>exact slicePart_int h
variable{lo hi:Option Int}
theorem sliceApplied_gen{sl:Addr}{a c:Value}{n:Nat}{Q:Int×Int×Nat->Shared->Prop}(hs:s.heap.IsSliceOf sl a c .none)(pl:IsPart a lo)(d:IsPart c hi)
  (h:Q (((sIx n 0 lo:Nat):Int),1,sIx n n hi - sIx n 0 lo) s):wpAny (model prog w) A (Builtin.Slice.sliceApplied (.ref sl) (pure (n:Int))) Q E s:=by
 obtain⟨os,b,e,hds⟩:=id hs;unfold Builtin.Slice.sliceApplied Builtin.Slice.sliceFields;refine wz (wz (wpAny_field b hds (x:=a) rfl (wz (wpAny_field b hds (x:=c) rfl (wz (wpAny_field b hds (x:= .none) rfl (wZ ?_)))))));refine wz (slicePart_none ?_)
 show wpAny _ _ (if((1:Int) == 0)=true then _ else _) _ _ s
 rw [wM (by decide)];refine wz (z41 pl (wz (z41 d (wz (wZ ?_)))))
 show wpAny _ _ (match Builtin.Slice.sliceAdjust lo hi 1 (n:Int)with | (lo,hi)=>pure (lo,(1:Int),Builtin.Slice.slicePlaces lo hi 1)) _ _ s
 rw [z7T lo hi n]
 show wpAny _ _ (pure (((sIx n 0 lo:Nat):Int),(1:Int),Builtin.Slice.slicePlaces ((sIx n 0 lo:Nat):Int) ((sIx n n hi:Nat):Int) 1)) _ _ s
 rw [z7e];exact wZ h
theorem z9U(xs:Array Value)(i k:Nat):((List.range k).filterMap λ(m:Nat)=>xs[((i:Int) + (m:Int) * 1).toNat]?).toArray=((xs.toList.drop i).take k).toArray:=by
 have e:(λ(m:Nat)=>xs[((i:Int) + (m:Int) * 1).toNat]?)=λm=>xs[i + m]? :=by
  funext m
  have:((i:Int) + (m:Int) * 1).toNat=i + m:=by lia
  rw [this]
 rw [e];have:=pick_run xs i k;rw [List.filterMap_map]at this;have a:((λx=>xs[x]?) ∘ λx=>i + x)=λm=>xs[i + m]? :=rfl
 rw [a]at this;rw [this]
theorem getItem_tuple_cut{t sl:Addr}{items:Array Value}{b c:Value}(ht:IsTup s.heap t items)(hs:s.heap.IsSliceOf sl b c .none)(pl:IsPart b lo)(j:IsPart c hi)
  (l:¬(sIx items.size 0 lo=0/\sIx items.size items.size hi=items.size))
  (h:Q (.ref s.heap.objs.size) {s with heap:=s.heap.push {cls:= .type "tuple",data:= .seq ((items.toList.drop (sIx items.size 0 lo)).take (sIx items.size items.size hi - sIx items.size 0 lo)).toArray}})
  (hsz:items.size<=sizeLine):wpAny (model prog w) A (getItem (.ref t) (.ref sl)) Q E s:=by
 have a:sizeOk (.seq ((items.toList.drop (sIx items.size 0 lo)).take (sIx items.size items.size hi - sIx items.size 0 lo)).toArray):=by
  show((items.toList.drop (sIx items.size 0 lo)).take (sIx items.size items.size hi - sIx items.size 0 lo)).toArray.size<=sizeLine
  rw [wy,wS,w0I,w0E]
  lia
 have n:sIx items.size items.size hi<=items.size:=zcZ _ _ (ww _) hi;obtain⟨os,i,e,hds⟩:=id hs;have d:s.TypeIs (.ref sl) "slice":=⟨os,i,e⟩;unfold getItem
 try with_reducible refine QP ?_
 first | refine wz (wZ ?_) | skip
 refine wz (wpAny_sequenceKey ht.typeIs (by decide) ?_);refine wz (wpAny_callSpecial?_slot (name:=Str.ofString "__getitem__") ht.typeIs Q4
  (wpAny_call_entry Q4 ht.typeIs entry_tuple_getitem ?_ (args_tuple_getitem _ _)))
 show wpAny _ _ (Builtin.Tuple.tupleItemsOf (.ref t) >>= _) _ _ s
 refine wz (tupleItemsOf_ ht ?_);refine wz (wpAny_typeOf d ?_);rw [wU (by decide)];refine wz (sliceApplied_gen hs pl j ?_);have f:¬((((sIx items.size 0 lo:Nat):Int) == 0 && (1:Int) == 1 && (sIx items.size items.size hi - sIx items.size 0 lo) == items.size)=true):=by
  intro q;rw [qT,qT]at q;have p:((sIx items.size 0 lo:Nat):Int)=0:=eq_of_beq q.1.1;have o:sIx items.size items.size hi - sIx items.size 0 lo=items.size:=eq_of_beq q.2;exact l ⟨by lia,by lia⟩
 show wpAny _ _ (if(((sIx items.size 0 lo:Nat):Int) == 0 && (1:Int) == 1 && (sIx items.size items.size hi - sIx items.size 0 lo) == items.size)=true then _ else _) _ _ s
 rw [wM f,z9U]
 first
  | exact wz (m:=Builtin.Tuple.tupleExact _) (w0z (wZ ⟨_,rfl,wZ h⟩) a)
  | exact wz (m:=Builtin.Tuple.tupleExact _) (w0z (wz (wZ (wZ ⟨_,rfl,wZ h⟩))) a)
  | exact wz (wz (m:=Builtin.Tuple.tupleExact _) (w0z (wZ (wZ ⟨_,rfl,wZ h⟩)) a))
  | exact wz (wz (m:=Builtin.Tuple.tupleExact _) (w0z (wZ ⟨_,rfl,wZ h⟩) a))
end
end HT
namespace L2
open PySem PySem.Spec PyProof.Rows
abbrev TO:=St->Hp->(Option Int->Hp->Prop)->Prop
def PO(X:Cx)(e:Option Expr)(t:TO):Prop:=
 ∀(pins:List (Addr×Obj)) (s:Shared) (σ:St) (H:Hp) (Q:Option Int->Hp->Prop),Inv X pins σ H s->t σ H Q->
  wpAny (model X.prog X.w) X.A (evalPart e X.env) (λu s'=>∃o H',Inv X pins σ H' s'/\IsPart u o/\Q o H') X.xe s
def zck:TO:=λ_ H Q=>Q none H
def ze5(t:TE):TO:=λσ H Q=>t σ H λx H1=>∃i,x= .int i/\Q (some i) H1
theorem intsAre_of{ns:List Int}:∀{us:List Value},zP (ns.map V.int) us->IntsAre us ns:=by
 induction ns with
 | nil=>intro us r;rw [qO]at r;cases r;exact .nil
 | cons n ns a=>
  intro us r;rw [wR]at r;cases r with
  | cons r1 r2=>
   obtain⟨t,e⟩:=r1;subst e;exact .cons n t (a r2)
variable{X:Cx}{e:Expr}{pos:Pos}{us:List Value}
section
variable{te:TE}{lo hi:Option Expr}{tl th:TO}{p2:Pos}
theorem jx:PO X none zck:=by
 intro pins s σ H Q I h;rw [evalPart_none];exact wZ ⟨none,H,I,.none,h⟩
theorem jn(h:PE X e te):PO X (some e) (ze5 te):=by
 intro pins s σ H Q I b;rw [evalPart_some];refine thn (h pins s σ H _ I b) ?_;rintro u s1 ⟨x,H1,a,r1,c⟩;obtain⟨i,rfl,q⟩:=c;obtain⟨t,rfl⟩:=r1;exact⟨some i,H1,a,.int i t,q⟩
def SlR(X:Cx)(r:V->Option Int->Option Int->Hp->VK->Prop):Prop:=
 ∀(pins:List (Addr×Obj)) (s:Shared) (σ:St) (H:Hp) (x:V) (v a b:Value) (lo hi:Option Int) (sl:Addr) (Q:VK),Inv X pins σ H s->RelV x v->s.heap.IsSliceOf sl a b .none->IsPart a lo->IsPart b hi->r x lo hi H Q->
  ∃T id,typeLookup (.type T) "__getitem__"=pure (some (.builtin id))/\s.TypeIs v T/\wpAny (model X.prog X.w) X.A (getItem v (.ref sl)) (EP X pins σ Q) X.xe s
variable{r:V->Option Int->Option Int->Hp->VK->Prop}
theorem SlR.or{r':V->Option Int->Option Int->Hp->VK->Prop}(h:SlR X r)(h':SlR X r'):SlR X (λx lo hi H Q=>r x lo hi H Q\/r' x lo hi H Q):=by
 intro pins s σ H x v a b lo hi sl Q I d hs pl c q;rcases q with q | q
 ·exact h pins s σ H x v a b lo hi sl Q I d hs pl c q
 ·exact h' pins s σ H x v a b lo hi sl Q I d hs pl c q
def tSl(r:V->Option Int->Option Int->Hp->VK->Prop)(te:TE)(tl th:TO):TE:=λσ H Q=>te σ H λx H1=>tl σ H1 λl H2=>th σ H2 λu a=>r x l u a Q
theorem j8(hr:SlR X r)(n:PE X e te)(hl:PO X lo tl)(E:PO X hi th):PE X (.Subscript e (.Slice lo hi none p2) pos) (tSl r te tl th):=by
 intro pins s σ H Q I h;refine Subscript_ (thn (n pins s σ H _ I h) ?_);rintro v s1 ⟨x,H1,i,r1,z⟩;refine wpAny_Slice (thn (hl pins s1 σ H1 _ i z) ?_);rintro c s2 ⟨l,H2,j,pl,y⟩;refine thn (E pins s2 σ H2 _ j y) ?_;rintro d a ⟨u,f,D,C,o⟩;rw [evalPart_none];refine wZ ?_;have p:Inv X pins σ f {a with heap:=a.heap.push {cls:= .type "slice",data:= .fields #[c,d,.none]}}:=D.kept (t':=a.toks) λb F q=>wm _ q
 obtain⟨T,id,t,ht,B⟩:=hr pins {a with heap:=a.heap.push {cls:= .type "slice",data:= .fields #[c,d,.none]}} σ f x v c d l u a.heap.objs.size Q p r1 (Heap.IsSliceOf.new ..) pl C o
 show wpAny (model X.prog X.w) X.A (subscriptTail e (.Slice lo hi none p2) v (.ref a.heap.objs.size)) (EP X pins σ Q) X.xe {a with heap:=a.heap.push {cls:= .type "slice",data:= .fields #[c,d,.none]}}
 exact tail_any (ops:= [.ref a.heap.objs.size,v]) ht t B (by with_unfolding_all rfl)
noncomputable def z0A(xs:List V)(lo hi:Option Int):List V:=(xs.drop (HT.sIx xs.length 0 lo)).take (HT.sIx xs.length xs.length hi - HT.sIx xs.length 0 lo)
theorem z3o(xs:List V)(lo hi:Option Int):(z0A xs lo hi).length<=xs.length:=by
 unfold z0A;rw [wS,w0I]
 lia
def zdt(K:W.Frag):V->Option Int->Option Int->Hp->VK->Prop:=λx lo hi H Q=>∃a xs,x= .ref a/\SqT K H a xs/\
 ¬(HT.sIx xs.length 0 lo=0/\HT.sIx xs.length xs.length hi=xs.length)/\∀p,H p=none->Q (.ref p) (upd H p (.tup (z0A xs lo hi)))
theorem z0R:SlR X (zdt X.K):=by
 intro pins s σ H x v i j lo hi sl Q I f hs pl d h;obtain⟨a,xs,rfl,c,e,q⟩:=h;cases f;obtain⟨a6,r,ht,hz⟩:=I.tuple c;have hlen:a6.toArray.size=xs.length:=by rw [wy];exact r.length.symm
 refine⟨"tuple",_,Q4.lookup,ht.typeIs,?_⟩;refine HT.getItem_tuple_cut ht hs pl d (by rw [hlen];exact e) ?_ (by rw [hlen];exact hz);rw [hlen];refine⟨.ref s.heap.objs.size,_,I.laid (t':=s.toks) (o:= .tup (z0A xs lo hi)) (λb l q=>wm _ q) (ww _) ?_,rfl,q _ (I.hok.fresh (ww _))⟩;exact⟨wV (z3o xs lo hi) hz,_,(r.drop (HT.sIx xs.length 0 lo)).take (HT.sIx xs.length xs.length hi - HT.sIx xs.length 0 lo),IsTup.new _ _⟩
def zdV(K:W.Frag):R2:=λx y H Q=>∃a b xs ys,x= .ref a/\y= .ref b/\SqT K H a xs/\SqT K H b ys/\xs≠ []/\xs.length + ys.length<=sizeLine/\
 (ys= []->Q (.ref a) H)/\(ys≠ []->∀p,H p=none->Q (.ref p) (upd H p (.tup (xs ++ ys))))
theorem zP.nil_iff{xs:List V}(r:zP xs us):us= []↔xs= []:=by
 cases r with
 | nil=>simp
 | cons _ _=>simp
theorem z3Q:OpR X (binaryOp .Add) (zdV X.K):=by
 intro pins s σ H x y v u Q I l c h;obtain⟨a,b,xs,ys,rfl,rfl,ha,d,e,hz,j,i⟩:=h;cases l;cases c;obtain⟨a6,r1,f,_⟩:=I.tuple ha;obtain⟨n,r2,p2,_⟩:=I.tuple d;refine HT.cat_tup f p2 (λz=>e (r1.nil_iff.mp z)) (λz=>⟨.ref a,H,I,rfl,j (r2.nil_iff.mp z)⟩) (λz=> ?_) (by rw [<-r1.length,<-r2.length];exact hz);refine⟨.ref s.heap.objs.size,_,I.laid (t':=s.toks) (o:= .tup (xs ++ ys)) (λb p q=>wm _ q) (ww _) ?_,rfl,i (λw=>z (r2.nil_iff.mpr w)) _ (I.hok.fresh (ww _))⟩;exact⟨by rw [wb];exact hz,_,r1.append r2,IsTup.new _ _⟩
end
noncomputable def ixN(n:Nat)(i:Int):Option Nat:=if 0<=i then(if i < n then some i.toNat else none)else if -(n:Int)<=i then some (i + n).toNat else none
variable{α:Type}
noncomputable def atI(xs:List α)(i:Int):Option α:=(ixN xs.length i).bind λj=>xs[j]?
variable{n j:Nat}{i:Int}
theorem z8z(h:ixN n i=some j):seqIndex? i n=some j/\j < n/\-(n:Int)<=i/\i < n:=by
 unfold ixN at h;by_cases h0:0<=i
 ·rw [wU h0]at h;by_cases h1:i < n
  ·rw [wU h1]at h;have e:i.toNat=j:=Option.some.inj h;exact⟨by rw [seqIndex_of h0 h1,e],by lia,by lia,h1⟩
  ·rw [wM h1]at h;cases h
 ·rw [wM h0]at h;by_cases h1: -(n:Int)<=i
  ·rw [wU h1]at h;have e:(i + n).toNat=j:=Option.some.inj h;exact⟨by rw [seqIndex_neg (by lia) h1,e],by lia,h1,by lia⟩
  ·rw [wM h1]at h;cases h
variable{xs:List α}
theorem z6e{v:α}(h:atI xs i=some v):∃j,seqIndex? i xs.length=some j/\xs[j]? =some v/\j < xs.length/\-(xs.length:Int)<=i/\i < xs.length:=by
 unfold atI at h;cases e:ixN xs.length i with
 | none=>rw [e]at h;cases h
 | some j=>
  rw [e]at h;obtain⟨h1,h2,b,a⟩:=z8z e;exact⟨j,h1,h,h2,b,a⟩
theorem zX{v:α}(h:xs[j]? =some v):atI xs (j:Int)=some v:=by
 have a:j < xs.length:=(we.mp h).1;have e:ixN xs.length (j:Int)=some j:=by
  unfold ixN;rw [wU (by lia),wU (by lia)];simp
 unfold atI;rw [e];exact h
theorem z77(xs:List α)(v:α):atI (xs ++ [v]) (-1)=some v:=by
 have hl:(xs ++ [v]).length=xs.length + 1:=by simp
 have e:ixN (xs ++ [v]).length (-1)=some xs.length:=by
  unfold ixN;rw [hl,wM (by decide),wU (by lia)]
  congr 1
  lia
 unfold atI;rw [e]
 show(xs ++ [v])[xs.length]? =some v
 simp
def z5O(b:Expr):Prop:=∀o i,subscripted b false o i=operate [o,i] (getItem o i)
def IxR(X:Cx)(r:R2):Prop:=
 ∀(value slice:Expr) (pins:List (Addr×Obj)) (s:Shared) (σ:St) (H:Hp) (x y:V) (v u:Value) (Q:VK),Inv X pins σ H s->RelV x v->RelV y u->r x y H Q->
  subscripted slice false v u=operate [v,u] (getItem v u)->wpAny (model X.prog X.w) X.A (subscriptTail value slice v u) (EP X pins σ Q) X.xe s
def MtR(X:Cx)(id:String)(r:V->List V->Hp->VK->Prop):Prop:=
 ∀(pins:List (Addr×Obj)) (s:Shared) (σ:St) (H:Hp) (x:V) (xs:List V) (v:Value) (us:List Value) (Q:VK),Inv X pins σ H s->RelV x v->zP xs us->r x xs H Q->
  wpAny (model X.prog X.w) X.A (call (.builtin id) (v :: us)) (EP X pins σ Q) X.xe s
variable{pins:List (Addr×Obj)}{H:Hp}{s:Shared}{a6:List Value}{A:Around}{y x:V}{u:Value}
section
variable{a b:Expr}{ta tb:TE}
theorem yK{r:R2}(hr:IxR X r)(ha:PE X a ta)(e:PE X b tb)(hs:z5O b):PE X (.Subscript a b pos) (tOp r ta tb):=by
 intro pins s σ H Q I h;exact Subscript_ (zdh ha e I h λv u s2 x y H2 c f d q=>hr a b pins s2 σ H2 x y v u Q c f d q (hs _ _))
def zcW(K:W.Frag):R2:=λx y H Q=>∃p xs i v,x= .ref p/\y= .int i/\SqL K H p xs/\atI xs i=some v/\Q v H
def zcX(K:W.Frag):R2:=λx y H Q=>∃p xs i v,x= .ref p/\y= .int i/\SqT K H p xs/\atI xs i=some v/\Q v H
def zeB:R2:=λx y H Q=>∃z i c,x= .str z/\y= .int i/\z.length<=sizeLine/\atI z.cps.toList i=some c/\Q (.str ⟨#[c]⟩) H
theorem z8L:IxR X (zcW X.K):=by
 intro value slice pins s σ H x y v u Q I n e h hs;obtain⟨p,xs,i,z,rfl,rfl,hq,d,q⟩:=h;cases n;obtain⟨t,rfl⟩:=e;obtain⟨a6,r,pl,hz⟩:=I.list hq;obtain⟨j,h1,h2,o,f,c⟩:=z6e d;obtain⟨w,b,l⟩:=r.get h2;have hl:=r.length;have hn:=z2n;have fin:EP X pins σ Q w s:=⟨z,H,I,l,q⟩;by_cases h0:0<=i
 ·have a:i.toNat=j:=by
   rw [seqIndex_of h0 c]at h1;exact Option.some.inj h1
  exact item_listR pl.isList h0 (by lia) (by rw [a];simpa using b) fin hs
 ·have a:(i + (a6.toArray.size:Int)).toNat=j:=by
   rw [seqIndex_neg (by lia) f]at h1;rw [wy,<-hl];exact Option.some.inj h1
  exact subscriptTail_builtinR (x:=w) pl.isList.typeIs slot_list_getitem.lookup
   (wpAny_getItem_list_neg (Q:=λr s'=>r=w/\EP X pins σ Q r s') pl.isList (by lia) (by rw [wy] <;> lia) (by lia) (by rw [a];simpa using b) ⟨rfl,fin⟩) hs
theorem zb6:IxR X (zcX X.K):=by
 intro value slice pins s σ H x y v u Q I e b h hs;obtain⟨p,xs,i,z,rfl,rfl,hq,a,q⟩:=h;cases e;obtain⟨t,rfl⟩:=b;obtain⟨a6,r,pl,hz⟩:=I.tuple hq;obtain⟨j,h1,h2,n,l,f⟩:=z6e a;obtain⟨w,d,c⟩:=r.get h2;have hl:=r.length;have hn:=z2n;have fin:EP X pins σ Q w s:=⟨z,H,I,c,q⟩;exact subscriptTail_builtinR (x:=w) pl.typeIs slot_tuple_getitem.lookup
  (getItem_tuple (j:=j) (Q:=λr s'=>r=w/\EP X pins σ Q r s') pl (by lia) (by lia) (by rw [wy,<-hl];exact h1) (by simpa using d) ⟨rfl,fin⟩) hs
theorem zdD:IxR X zeB:=by
 intro value slice pins s σ H x y v u Q I n d h hs;obtain⟨z,i,c,rfl,rfl,hz,b,q⟩:=h;obtain⟨t,rfl⟩:=n;obtain⟨t',rfl⟩:=d;obtain⟨j,h1,h2,o,l,a⟩:=z6e b;have hl:z.cps.toList.length=z.length:=by simp [Str.length]
 rw [hl]at h1 l a;have hn:=z2n;exact tail_any (typeIs_str s z t) slot_str_getitem.lookup (getItem_str (c:=c) (by
  have f:decide (i < -(2 ^ 63:Int))=false:=wI (by lia);have e:decide (i≥2 ^ 63)=false:=wI (by lia);rw [f,e,Bool.or_false]) (by rw [h1];simpa using h2) ⟨.str ⟨#[c]⟩,H,I.tok _,⟨_,rfl⟩,q⟩) hs
theorem z7Q(a6:List Value)(n j:Nat)(u:Value):Obj.mapSeq (·.setIfInBounds j u) {cls:= .type "list",data:= .seq a6.toArray n}={cls:= .type "list",data:= .seq (a6.set j u).toArray n}:=by
 simp [Obj.mapSeq]
theorem Inv.lst{pins:List (Addr×Obj)}{σ:St}{H:Hp}{s:Shared}{p:Addr}{xs:List V}(I:Inv X pins σ H s)(h:H p=some (.lst xs)):
  ∃(a6:List Value) (n:Nat),zP xs a6/\s.heap.get? p=some {cls:= .type "list",data:= .seq a6.toArray n}/\xs.length<=sizeLine:=by
 obtain⟨z,a6,n,r,e⟩:=I.hok p _ h;exact⟨a6,n,r,e,z⟩
theorem Inv.lstUpd{σ:St}{p:Addr}{xs ys:List V}{its':List Value}{a:Nat}{f:Obj->Obj}(I:Inv X pins σ H s)(h:H p=some (.lst xs))
  (d:s.heap.get? p=some {cls:= .type "list",data:= .seq a6.toArray n}) (c:f {cls:= .type "list",data:= .seq a6.toArray n}={cls:= .type "list",data:= .seq its'.toArray a}) (r:zP ys its') (hz:ys.length<=sizeLine) (t:Nat):
  Inv X pins σ (upd H p (.lst ys)) {s with heap:=s.heap.update p f,toks:=t}:=by
 have e:(s.heap.update p f).get? p=some {cls:= .type "list",data:= .seq its'.toArray a}:=by
  rw [w0Q f d (by rw [c] <;> rfl),c]
 refine I.write (x:=p) (e:=p) (by rw [h];trivial) (.inl rfl) (λb u i q=>(Q2 _ _ (w1h i)).trans q) ⟨_,e⟩ ?_;exact⟨hz,its',a,r,e⟩
def zeh:V->V->V->Hp->(Hp->Prop)->Prop:=λo i v H Q=>∃p xs k j,o= .ref p/\i= .int k/\H p=some (.lst xs)/\ixN xs.length k=some j/\Q (upd H p (.lst (xs.set j v)))
theorem set_list:ze8 X zeh:=by
 intro pins s σ H o i v y z u Q I l w f h;obtain⟨p,xs,k,j,rfl,rfl,hp,x,q⟩:=h;cases l;obtain⟨t,rfl⟩:=w;obtain⟨a6,n,r,b,hz⟩:=I.lst hp;obtain⟨h1,h2,e,d⟩:=z8z x;have hl:=r.length;have hn:=z2n;have c:Inv X pins σ (upd H p (.lst (xs.set j v))) {s with heap:=s.heap.update p (Obj.mapSeq (·.setIfInBounds j u))}:=
  I.lstUpd hp b (z7Q a6 n j u) (r.set f j) (by rw [List.length_set];exact hz) s.toks
 by_cases h0:0<=k
 ·have a:k.toNat=j:=by
   rw [seqIndex_of h0 d]at h1;exact Option.some.inj h1
  exact PySem.W.ki_setAt b h0 (by lia) (by rw [wy,<-hl];exact d) (by rw [a];exact⟨_,c,q⟩)
 ·have a:(k + (a6.toArray.size:Int)).toNat=j:=by
   rw [seqIndex_neg (by lia) e]at h1;rw [wy,<-hl];exact Option.some.inj h1
  exact PySem.W.ki_setBack b (by lia) (by rw [wy,<-hl];exact e) (by lia) (by rw [a];exact⟨_,c,q⟩)
theorem z66(lo hi:Option Int)(n:Nat):(sliceBounds lo hi none n).1=((HT.sIx n 0 lo:Nat):Int)/\(sliceBounds lo hi none n).2.1=((HT.sIx n n hi:Nat):Int)/\(sliceBounds lo hi none n).2.2=1:=by
 refine⟨?_,?_,rfl⟩
 ·cases lo with
  | none=>simp [sliceBounds,HT.sIx]
  | some i=>
   simp only [sliceBounds,HT.sIx,Option.getD_none,show(1:Int) > 0 by decide,w0M];by_cases h:i < 0
   ·simp only [h,w0M] <;> lia
   ·simp only [h,w0v] <;> lia
 ·cases hi with
  | none=>simp [sliceBounds,HT.sIx]
  | some i=>
   simp only [sliceBounds,HT.sIx,Option.getD_none,show(1:Int) > 0 by decide,w0M];by_cases h:i < 0
   ·simp only [h,w0M] <;> lia
   ·simp only [h,w0v] <;> lia
theorem z4R(a6:List Value)(lo hi:Option Int):slicePick a6.toArray lo hi none=((a6.drop (HT.sIx a6.length 0 lo)).take (HT.sIx a6.length a6.length hi - HT.sIx a6.length 0 lo)).toArray:=by
 obtain⟨h1,h2,a⟩:=z66 lo hi a6.toArray.size;unfold slicePick;rw [h1,h2,a];simp only [sliceRange_one,pick_run,wy] <;> rfl
def zez(K:W.Frag):V->Option Int->Option Int->Hp->VK->Prop:=λx lo hi H Q=>∃a xs,x= .ref a/\SqL K H a xs/\∀p,H p=none->Q (.ref p) (upd H p (.lst (z0A xs lo hi)))
theorem kj:SlR X (zez X.K):=by
 intro pins s σ H x v f i lo hi sl Q I e hs pl d h;obtain⟨a,xs,rfl,c,q⟩:=h;cases e;obtain⟨a6,r,ht,hz⟩:=I.list c;have hlen:=r.length;refine⟨"list",_,slot_list_getitem.lookup,ht.isList.typeIs,?_⟩;refine wpAny_getItem_list_slice ht.isList hs pl d .none (by simp) ?_ (by rw [wy] <;> lia);rw [z4R,<-hlen];refine⟨.ref s.heap.objs.size,_,I.laid (t':=s.toks) (o:= .lst (z0A xs lo hi)) (λb j q=>wm _ q) (ww _) ?_,rfl,q _ (I.hok.fresh (ww _))⟩;exact⟨wV (z3o xs lo hi) hz,_,0,(r.drop (HT.sIx xs.length 0 lo)).take (HT.sIx xs.length xs.length hi - HT.sIx xs.length 0 lo),qc _ rfl⟩
noncomputable def yM:V->Bool
 | .non=>true
 | .bl _=>true
 | .int _=>true
 | .str _=>true
 | _=>false
noncomputable def eqV:V->V->Bool
 | .non,.non=>true
 | .bl a,.bl b=>a == b
 | .bl a,.int b=>(if a then 1 else 0) == b
 | .int a,.bl b=>a == (if b then 1 else 0)
 | .int a,.int b=>a == b
 | .str a,.str b=>a == b
 | _,_=>false
theorem z5K{v:Value}(e:RelV y u)(c:RelV x v)(f:yM y=true)(d:yM x=true):SeqAt.EqAt A s u v (eqV y x):=by
 cases y with
 | non=>
  cases e;cases x with
  | non=>cases c;exact SeqAt.EqAt.same _
  | bl b=>cases c;exact SeqAt.EqAt.none_bool b
  | int b=>obtain⟨t,rfl⟩:=c;exact SeqAt.EqAt.none_int b t
  | str b=>obtain⟨t,rfl⟩:=c;exact SeqAt.EqAt.none_str b t
  | _=>exact absurd (show false=true from d) wQ
 | bl a=>
  cases e;cases x with
  | non=>cases c;exact SeqAt.EqAt.bool_none a
  | bl b=>cases c;exact SeqAt.EqAt.bool_bool a b
  | int b=>obtain⟨t,rfl⟩:=c;exact SeqAt.EqAt.bool_int a b t
  | str b=>obtain⟨t,rfl⟩:=c;exact SeqAt.EqAt.bool_str a b t
  | _=>exact absurd (show false=true from d) wQ
 | int a=>
  obtain⟨t',rfl⟩:=e;cases x with
  | non=>cases c;exact SeqAt.EqAt.int_none a t'
  | bl b=>cases c;exact SeqAt.EqAt.int_bool a t' b
  | int b=>obtain⟨t,rfl⟩:=c;exact SeqAt.EqAt.int_int a t' b t
  | str b=>obtain⟨t,rfl⟩:=c;exact SeqAt.EqAt.int_str a t' b t
  | _=>exact absurd (show false=true from d) wQ
 | str a=>
  obtain⟨t',rfl⟩:=e;cases x with
  | non=>cases c;exact SeqAt.EqAt.str_none a t'
  | bl b=>cases c;exact SeqAt.EqAt.str_bool a t' b
  | int b=>obtain⟨t,rfl⟩:=c;exact SeqAt.EqAt.str_int a t' b t
  | str b=>obtain⟨t,rfl⟩:=c;exact SeqAt.EqAt.str_str a t' b t
  | _=>exact absurd (show false=true from d) wQ
 | _=>exact absurd (show false=true from f) wQ
noncomputable def eqU(x:V)(u:Value):Bool:=match u with
 | .none=>eqV .non x
 | .bool b=>eqV (.bl b) x
 | .int i _=>eqV (.int i) x
 | .str z _=>eqV (.str z) x
 | _=>false
theorem z5P(r:RelV y u)(f:yM y=true):eqU x u=eqV y x:=by
 cases y with
 | non=>cases r;rfl
 | bl b=>cases r;rfl
 | int i=>obtain⟨t,rfl⟩:=r;rfl
 | str z=>obtain⟨t,rfl⟩:=r;rfl
 | _=>exact absurd (show false=true from f) wQ
theorem z2E{x:V}:∀{xs:List V} {us:List Value},zP xs us->xs.all yM=true->us.any (eqU x)=xs.any λy=>eqV y x
 | _,_,.nil,_=>rfl
 | y :: xs,u :: us,.cons r t,f=>by
  rw [List.all_cons,qT]at f;rw [w1j,w1j,z5P r f.1,z2E t f.2]
theorem z19{A:Around}{s:Shared}{x:V}{v:Value}(b:RelV x v)(a:yM x=true):∀{xs:List V} {us:List Value},zP xs us->xs.all yM=true->∀u∈us,SeqAt.EqAt A s u v (eqU x u)
 | _,_,.nil,_=>λu hu=>by cases hu
 | y :: xs,u :: us,.cons r t,f=>λc hu=>by
  rw [List.all_cons,qT]at f;rcases wE.mp hu with rfl | hu
  ·rw [z5P r f.1];exact z5K r b f.1 a
  ·exact z19 b a t f.2 c hu
noncomputable def inV(x:V)(xs:List V):Bool:=xs.any λy=>eqV y x
def rIn(K:W.Frag)(a:Bool):R2:=λx y H Q=>∃p xs,y= .ref p/\(SqL K H p xs\/SqT K H p xs)/\yM x=true/\xs.all yM=true/\Q (.bl (if a then !inV x xs else inV x xs)) H
theorem jO:OpR X (compareOp .In) (rIn X.K false):=by
 intro pins s σ H x y v u Q I c d h;obtain⟨p,xs,rfl,hq,b,fs,q⟩:=h;cases d;rcases hq with hq | hq
 ·obtain⟨a6,r,pl,hz⟩:=I.list hq;refine SeqAt.in_listAt (eqU x) pl.isList (λw a=>z19 c b r fs w (by simpa using a)) ⟨.bl _,H,I,rfl,?_⟩;rw [show a6.toArray.any (eqU x)=a6.any (eqU x) by simp,z2E r fs];exact q
 ·obtain⟨a6,r,pl,hz⟩:=I.tuple hq;refine SeqAt.in_tupleAt (eqU x) pl (λw a=>z19 c b r fs w (by simpa using a)) ⟨.bl _,H,I,rfl,?_⟩;rw [show a6.toArray.any (eqU x)=a6.any (eqU x) by simp,z2E r fs];exact q
theorem yH:OpR X (compareOp .NotIn) (rIn X.K true):=by
 intro pins s σ H x y v u Q I c d h;obtain⟨p,xs,rfl,hq,b,fs,q⟩:=h;cases d;rcases hq with hq | hq
 ·obtain⟨a6,r,pl,hz⟩:=I.list hq;refine SeqAt.notIn_listAt (eqU x) pl.isList (λw a=>z19 c b r fs w (by simpa using a)) ⟨.bl _,H,I,rfl,?_⟩;rw [show a6.toArray.any (eqU x)=a6.any (eqU x) by simp,z2E r fs];exact q
 ·obtain⟨a6,r,pl,hz⟩:=I.tuple hq;refine SeqAt.notIn_tupleAt (eqU x) pl (λw a=>z19 c b r fs w (by simpa using a)) ⟨.bl _,H,I,rfl,?_⟩;rw [show a6.toArray.any (eqU x)=a6.any (eqU x) by simp,z2E r fs];exact q
theorem z2y:yZ X (.builtin "len") (λxs H Q=>∃p ys,xs= [.ref p]/\(SqL X.K H p ys\/SqT X.K H p ys)/\Q (.int ys.length) H):=by
 intro pins s σ H xs us Q I r h;obtain⟨p,ys,rfl,hq,q⟩:=h;obtain⟨u,rfl,a⟩:=vals1 r;cases a;have hn:=z2n;rcases hq with hq | hq
 ·obtain⟨a6,r',pl,hz⟩:=I.list hq;have hlen:=r'.length;exact Calls.call_len_list pl.isList (by simp only [wy] <;> lia) ⟨.int ys.length,H,I.tok _,⟨s.toks + 1,by rw [wy,hlen]⟩,q⟩
 ·obtain⟨a6,r',pl,hz⟩:=I.tuple hq;have hlen:=r'.length;exact len_tuple pl (by simp only [wy] <;> lia) ⟨.int ys.length,H,I.tok _,⟨s.toks + 1,by rw [wy,hlen]⟩,q⟩
theorem jY:yZ X (.type "list") (λxs H Q=>∃p ys,xs= [.ref p]/\(SqL X.K H p ys\/SqT X.K H p ys)/\∀l,H l=none->Q (.ref l) (upd H l (.lst ys))):=by
 intro pins s σ H xs us Q I r h;obtain⟨p,ys,rfl,hq,q⟩:=h;obtain⟨u,rfl,c⟩:=vals1 r;cases c;have fin:∀(a6:List Value),zP ys a6->ys.length<=sizeLine->∀(h':Heap) (c':Nat),(∀b o',s.heap.get? b=some o'->h'.get? b=some o')->
   h'.get? s.heap.objs.size=some {cls:= .type "list",dict:=none,data:= .seq a6.toArray c',slots:= #[]}->EP X pins σ Q (.ref s.heap.objs.size) {s with heap:=h'}:=λa6 r' hz h' c' kp e=>
  ⟨.ref s.heap.objs.size,_,I.laid (t':=s.toks) kp (ww _) (show jj X.prog X.w _ h' _ (.lst ys)from⟨hz,a6,c',r',e⟩),rfl,q _ (I.hok.fresh (ww _))⟩
 rcases hq with hq | hq
 ·obtain⟨a6,r',pl,hz⟩:=I.list hq;have hlen:=r'.length;obtain⟨o,a,hc,n,hd⟩:=pl.isList;exact call_list_seq p (.inl rfl) a hc hd (λh' c' kp e=>fin a6 r' hz h' c' kp e) (by simp only [wy] <;> lia)
 ·obtain⟨a6,r',pl,hz⟩:=I.tuple hq;have hlen:=r'.length;obtain⟨o,a,hc,n,hd⟩:=pl;exact call_list_seq p (.inr rfl) a hc hd (λh' c' kp e=>fin a6 r' hz h' c' kp e) (by simp only [wy] <;> lia)
theorem z0Q:yZ X (.type "tuple") (λxs H Q=>∃p ys,xs= [.ref p]/\((SqL X.K H p ys/\∀l,H l=none->Q (.ref l) (upd H l (.tup ys)))\/(SqT X.K H p ys/\Q (.ref p) H))):=by
 intro pins s σ H xs us Q I r h;obtain⟨p,ys,rfl,h⟩:=h;obtain⟨u,rfl,d⟩:=vals1 r;cases d;rcases h with⟨hq,q⟩ | ⟨hq,q⟩
 ·obtain⟨a6,r',pl,hz⟩:=I.list hq;have hlen:=r'.length;refine call_tuple_list pl.isList (λh' kp=> ?_) (by simp only [wy] <;> lia);have a:Inv X pins σ H {s with heap:=h'}:=I.kept (t':=s.toks) kp;have c:Inv X pins σ (upd H h'.objs.size (.tup ys)) {s with heap:=h'.push {cls:= .type "tuple",data:= .seq a6.toArray}}:=
   a.laid (t':=s.toks) (λb o e=>wm _ e) (ww _) (show jj X.prog X.w _ _ _ (.tup ys)from⟨hz,a6,r',IsTup.new _ _⟩)
  exact⟨.ref h'.objs.size,_,c,rfl,q _ (a.hok.fresh (ww _))⟩
 ·obtain⟨a6,r',pl,hz⟩:=I.tuple hq;exact call_tuple_same pl ⟨.ref p,H,I,rfl,q⟩
def tyV(K:W.Frag)(T:String)(x:V)(H:Hp):Prop:=match x with
 | .str _=>T="str"
 | .int _=>T="int"
 | .ref p=>(T="list"/\∃xs,SqL K H p xs)\/(T="tuple"/\∃o,K.lookup p=some o/\o.cls= .type "tuple"/\o.dict=none)\/
   (T="dict"/\((∃kvs,H p=some (.dK kvs))\/∃kvs,H p=some (.dT kvs)))\/(T="set"/\∃S n,H p=some (.set S n))
 | _=>False
theorem za4{σ:St}{T:String}{v:Value}(I:Inv X pins σ H s)(r:RelV x v)(ty:tyV X.K T x H):
  s.TypeIs v T/\∀a,v= .ref a->∃d,s.heap.get? a=some d/\d.dict=none:=by
 cases x with
 | str z=>
  obtain⟨t,rfl⟩:=r;cases (show T="str" from ty);exact⟨typeIs_str s z t,λ_ e=>nomatch e⟩
 | int i=>
  obtain⟨t,rfl⟩:=r;cases (show T="int" from ty);exact⟨typeIs_int s i t,λ_ e=>nomatch e⟩
 | ref p=>
  cases r;rcases ty with⟨rfl,xs,hq⟩ | ⟨rfl,o,hk,hc,hd⟩ | ⟨rfl,hk⟩ | ⟨rfl,S,n,hk⟩
  ·obtain⟨a6,_,pl,_⟩:=I.list hq;refine⟨pl.isList.typeIs,λa e=> ?_⟩;cases e;obtain⟨o,n,e,c,hd,_⟩:=pl;exact⟨o,e,hd⟩
  ·refine⟨⟨o,I.kIn p o hk,hc⟩,λa e=> ?_⟩;cases e;exact⟨o,I.kIn _ o hk,hd⟩
  ·have z:∃o,s.heap.get? p=some o/\o.ExactDict:=by
    rcases hk with⟨kvs,hk⟩ | ⟨kvs,hk⟩
    ·obtain⟨_,_,_,_,o,_,_,e,ex,_⟩:=I.hok p _ hk;exact⟨o,e,ex⟩
    ·obtain⟨_,_,_,_,o,_,_,e,ex,_⟩:=I.hok p _ hk;exact⟨o,e,ex⟩
   obtain⟨o,e,ex⟩:=z;refine⟨⟨o,e,ex.1⟩,λa b=> ?_⟩;cases b;exact⟨o,e,ex.2.1⟩
  ·obtain⟨o,_,_,_,e,ex,_⟩:=I.hok p _ hk;refine⟨⟨o,e,ex.1⟩,λa b=> ?_⟩;cases b;exact⟨o,e,ex.2.1⟩
 | _=>exact False.elim ty
def zeT(K:W.Frag)(T:String)(r:V->List V->Hp->VK->Prop)(to:TE):TE:=λσ H Q=>to σ H λx H1=>tyV K T x H1/\r x [] H1 Q
def tBM(K:W.Frag)(T:String)(r:V->List V->Hp->VK->Prop)(to:TE)(t:TA):TE:=λσ H Q=>to σ H λx H1=>tyV K T x H1/\t σ H1 λxs H2=>r x xs H2 Q
variable{o:Expr}{es:List Expr}{to:TE}{t:TA}{name:Str}{apos af:Pos}{T id:String}{r:V->List V->Hp->VK->Prop}
theorem z3i(b:PlainAttrs T)(slot:Slot T name id)(i:typeOf (.builtin id)=pure (.type "method_descriptor"))(hm:MtR X id r)(e:PE X o to)
  (c:attributeBase o name X.env (eval o X.env)=eval o X.env:=by rfl) (f:(apos.endLine == af.line)=true:=by rfl):PE X (.Call (.Attribute o name apos) [] [] af) (zeT X.K T r to):=by
 intro pins s σ H Q I h;refine wpAny_Call_method0_late c f (thn (e pins s σ H _ I h) ?_);rintro v s1 ⟨x,H1,a,r1,ty,d⟩;obtain⟨h1,h2⟩:=za4 a r1 ty;exact⟨T,id,b,slot,i,h1,h2,Calls.callWith_builtin rfl (PySem.evalArgs_none (hm pins s1 σ H1 x [] v [] Q a r1 .nil d))⟩
theorem z1v(d:PlainAttrs T)(slot:Slot T name id)(u:typeOf (.builtin id)=pure (.type "method_descriptor"))(hm:MtR X id r)(n:PE X o to)(ha:PA X (e :: es) t)
  (f:attributeBase o name X.env (eval o X.env)=eval o X.env:=by rfl)
  (i:((backTo af (starEach (e :: es) X.env)).all (λx=> !x.1) && (backToKw af (keywordEach [] X.env)).all (λx=>x.1.isSome)
   && decide ((e :: es).length + ([]:List Keyword).length + (if([]:List Keyword).isEmpty then 0 else 1) < 30))=true:=by rfl)
  (q:(apos.endLine == af.line)=true:=by rfl) (hs:starEach (e :: es) X.env=(false,eval e X.env) :: starEach es X.env:=by rfl) (p:(backTo af (starEach es X.env)).any (·.1)=false:=by rfl):
  PE X (.Call (.Attribute o name apos) (e :: es) [] af) (tBM X.K T r to t):=by
 intro pins s σ H Q I h;refine wpAny_Call_method_late f i q rfl (thn (n pins s σ H _ I h) ?_);rintro v s1 ⟨x,H1,a,r1,ty,l⟩;obtain⟨h1,h2⟩:=za4 a r1 ty;refine⟨T,id,d,slot,u,h1,h2,?_⟩;have b:=ha af pins s1 σ H1 _ a l;rw [hs]at b ⊢;refine Calls.callWith_builtin (by show(false || (backTo af (starEach es X.env)).any (·.1))=false;rw [p] <;> rfl) (Calls.evalArgs_plain ?_);exact thn b λus s2 ⟨vs,H2,c,r2,j⟩=>hm pins s2 σ H2 x vs v us Q c r1 r2 j
end
def MtM(X:Cx)(id:String)(r:V->List V->Hp->VK->Prop):Prop:=
 ∀(pins:List (Addr×Obj)) (s:Shared) (σ:St) (H:Hp) (x:V) (xs:List V) (v:Value) (us:List Value) (Q:VK),Inv X pins σ H s->RelV x v->zP xs us->r x xs H Q->
  wpAny (model X.prog X.w) X.A (call (.builtin id) (v :: us)) (EP X pins σ Q) X.xe s
theorem zP.one(h:zP [x] us):∃u,us= [u]/\RelV x u:=by
 rcases h with _ | ⟨r,t⟩;cases t;exact⟨_,rfl,r⟩
def zP.zero:∀{us:List Value},zP [] us->us= []
 | _,.nil=>rfl
theorem zP.dropLast{xs:List V}(h:zP xs us):zP xs.dropLast us.dropLast:=by
 induction h with
 | nil=>exact .nil
 | cons r t a=>
  cases t with
  | nil=>exact .nil
  | cons q t'=>exact .cons r a
theorem z7V(l:List α):l.eraseIdx (l.length - 1)=l.dropLast:=by
 induction l with
 | nil=>rfl
 | cons a r c=>
  cases r with
  | nil=>rfl
  | cons b r=>
   have e:(a :: b :: r).length - 1=((b :: r).length - 1) + 1:=by
    have h1:(a :: b :: r).length=r.length + 2:=rfl;have h2:(b :: r).length=r.length + 1:=rfl
    lia
   rw [e,List.eraseIdx_cons_succ,c]
   all_goals rfl
variable{t':Nat}
section
variable{σ:St}{l b:Addr}{xs ys zs:List V}
theorem Inv.lset{its':List Value}{f:Array Value->Array Value}(I:Inv X pins σ H s)(a:H l=some (.lst xs))
  (e:s.heap.get? l=some {cls:= .type "list",data:= .seq a6.toArray n}) (b:f a6.toArray=its'.toArray) (d:zP ys its') (hz:ys.length<=sizeLine):
  Inv X pins σ (upd H l (.lst ys)) {s with heap:=s.heap.update l (Obj.mapSeq f),toks:=t'}:=by
 have q:=PySem.IsL.update e f;rw [b]at q;refine I.write (x:=l) (e:=l) (by rw [a];exact trivial) (.inl rfl) (λb' u h c=>(Q2 s.heap (Obj.mapSeq f) (w1h h)).trans c) ⟨_,q⟩ ?_;exact⟨hz,its',_,d,q⟩
def Inv.lnew(I:Inv X pins σ H s)(a:zP ys a6)(hz:ys.length<=sizeLine):
  Inv X pins σ (upd H s.heap.objs.size (.lst ys)) {s with heap:=s.heap.push {cls:= .type "list",data:= .seq a6.toArray},toks:=t'}:=
 I.laid (λ_ _ q=>wm _ q) (ww _) ⟨hz,a6,0,a,qc _ rfl⟩
def Inv.fresh(I:Inv X pins σ H s):H s.heap.objs.size=none:=I.hok.fresh (ww _)
theorem Inv.lstM(I:Inv X pins σ H s)(a:H l=some (.lst xs)):xs.length<=sizeLine/\∃(a6:List Value) (n:Nat),zP xs a6/\xs.length=a6.length/\s.heap.get? l=some {cls:= .type "list",data:= .seq a6.toArray n}:=by
 obtain⟨z,a6,n,r,e⟩:=I.hok l _ a;exact⟨z,a6,n,r,r.length,e⟩
theorem z9F(h:n<=sizeLine):Builtin.List.listTooLong n=false:=by
 unfold Builtin.List.listTooLong;exact wI (by lia)
end
def z89:V->List V->Hp->VK->Prop:=λx vs H Q=>∃l xs y,x= .ref l/\vs= [y]/\H l=some (.lst xs)/\xs.length < sizeLine/\Q .non (upd H l (.lst (xs ++ [y])))
theorem z8Z:MtM X "list.append" z89:=by
 intro pins s σ H x vs v us Q I d b h;obtain⟨l,xs,y,rfl,rfl,a,hz,q⟩:=h;cases d;obtain⟨u,rfl,c⟩:=b.one;obtain⟨z,a6,n,r,hl,e⟩:=I.lstM a;refine call_meets F.slot_list_append ⟨_,e,rfl⟩ F.entry_list_append (F.args_list_append_2 _ _) (PySem.list_append l a6.toArray n u (by rw [wy];lia)) ⟨e,?_⟩;refine⟨.non,_,I.lset (its':=a6 ++ [u]) a e (by simp) (r.append (.cons c .nil)) ?_,rfl,q⟩;rw [wb,wD]
 lia
def zbT:V->List V->Hp->VK->Prop:=λx vs H Q=>∃l b xs zs,x= .ref l/\vs= [.ref b]/\H l=some (.lst xs)/\H b=some (.lst zs)/\xs.length + zs.length<=sizeLine/\Q .non (upd H l (.lst (xs ++ zs)))
theorem z96:MtM X "list.extend" zbT:=by
 intro pins s σ H x vs v us Q I t d h;obtain⟨l,b,xs,zs,rfl,rfl,c,i,hz,q⟩:=h;cases t;obtain⟨u,rfl,j⟩:=d.one;cases j;obtain⟨z,a6,n,r,hl,e⟩:=I.lstM c;obtain⟨w,a,o,r2,y,f⟩:=I.lstM i;have hsz:a6.toArray.size + a.toArray.size<=sizeLine:=by rw [wy,wy];lia
 have p:¬(!a6.toArray.isEmpty && Builtin.List.listTooLong (a6.toArray.size + a.toArray.size))=true:=by
  rw [z9F hsz,Bool.and_false];exact wQ
 refine call_meets F.slot_list_extend ⟨_,e,rfl⟩ F.entry_list_extend (F.args_list_extend_2 _ _)
  (AutoSeq1.list_extend_list_list_0 l a6.toArray n b a.toArray o p (by rw [wy];lia) (by lia)) ⟨e,f,?_⟩
 refine⟨.non,_,I.lset (its':=a6 ++ a) c e (by simp) (r.append r2) ?_,rfl,q⟩;rw [wb]
 lia
def zev:V->List V->Hp->VK->Prop:=λx vs H Q=>∃l xs y,x= .ref l/\vs= []/\H l=some (.lst xs)/\xs[xs.length - 1]? =some y/\Q y (upd H l (.lst xs.dropLast))
theorem z3e:MtM X "list.pop" zev:=by
 intro pins s σ H x vs v us Q I o b h;obtain⟨l,xs,y,rfl,rfl,a,f,q⟩:=h;cases o;have d:=b.zero;subst d;obtain⟨z,a6,n,r,hl,e⟩:=I.lstM a;obtain⟨u,i,c⟩:=r.get f;have j:a6.toArray[a6.toArray.size - 1]? =some u:=by
  show a6.toArray[a6.length - 1]? =some u
  rw [<-Array.getElem?_toList,<-hl];exact i
 refine call_meets F.slot_list_pop ⟨_,e,rfl⟩ F.entry_list_pop (F.args_list_pop_1 _) (MeetsSeq.list_pop_last l a6.toArray n u j (by rw [wy];lia)) ⟨e,?_⟩;refine⟨y,_,I.lset (its':=a6.dropLast) a e ?_ r.dropLast ?_,c,q⟩
 ·show a6.toArray.eraseIdxIfInBounds (a6.toArray.size - 1)=a6.dropLast.toArray
  rw [wy,List.eraseIdxIfInBounds_toArray,z7V]
 ·rw [List.length_dropLast]
  lia
def zey:R2:=λx y H Q=>∃l b xs zs,x= .ref l/\y= .ref b/\H l=some (.lst xs)/\H b=some (.lst zs)/\xs.length + zs.length<=sizeLine/\∀p,H p=none->Q (.ref p) (upd H p (.lst (xs ++ zs)))
theorem ke:OpR X (binaryOp .Add) zey:=by
 intro pins s σ H x y v u Q I j c h;obtain⟨l,b,xs,zs,rfl,rfl,i,f,hz,q⟩:=h;cases j;cases c;obtain⟨z,a6,n,r,hl,e⟩:=I.lstM i;obtain⟨p,a,t,r2,w,d⟩:=I.lstM f;refine PySem.P.add_list e d ?_ (by rw [wy,wy];lia);have o:a6.toArray ++ a.toArray=(a6 ++ a).toArray:=by simp
 rw [o];exact⟨.ref _,_,I.lnew (t':=s.toks) (r.append r2) (by rw [wb];lia),rfl,q _ I.fresh⟩
variable{o:Option V}
section
variable{κ:Type}[DecidableEq κ]
noncomputable def z27(kvs:List (κ×V))(k:κ):Option V:=(kvs.find? λkv=>decide (kv.1=k)).map (·.2)
noncomputable def putK(kvs:List (κ×V))(k:κ)(v:V):List (κ×V):=
 if(kvs.any λkv=>decide (kv.1=k))=true then kvs.map (λkv=>if kv.1=k then(kv.1,v)else kv)else kvs ++ [(k,v)]
variable{r:List (κ×V)}
theorem z4u{p:κ×V}{k:κ}(e:p.1=k):z27 (p :: r) k=some p.2:=by simp [z27,w0R,e]
theorem z4l{p:κ×V}{k:κ}(e:¬p.1=k):z27 (p :: r) k=z27 r k:=by simp [z27,w0R,e]
theorem z16(k:κ):∀kvs:List (κ×V),(kvs.any λkv=>decide (kv.1=k))=(z27 kvs k).isSome
 | []=>rfl
 | p :: r=>by
  rw [w1j];by_cases e:p.1=k
  ·simp only [z4u e,wN e,Bool.true_or,Option.isSome_some]
  ·rw [z4l e,wI e,Bool.false_or];exact z16 k r
theorem z1S(kvs:List (κ×V))(k:κ)(v:V):(putK kvs k v).length<=kvs.length + 1:=by
 unfold putK;split
 ·rw [w9];lia
 ·rw [wb,wJ,Qe];lia
variable{kvs:List (κ×V)}
theorem zaY{k:κ}(v:V)(h:z27 kvs k=none):putK kvs k v=kvs ++ [(k,v)]:=by
 unfold putK;rw [z16,h];exact wM (by decide)
theorem z29.isSome_eq{u:Option Value}(r:z29 o u):o.isSome=u.isSome:=by
 cases o with
 | none=>cases u with
  | none=>rfl
  | some _=>exact(show False from r).elim
 | some _=>cases u with
  | none=>exact(show False from r).elim
  | some _=>rfl
theorem z29.getD{u:Option Value}{d:V}{d':Value}(r:z29 o u)(a:RelV d d'):RelV (o.getD d) (u.getD d'):=by
 cases o with
 | none=>cases u with
  | none=>exact a
  | some _=>exact(show False from r).elim
 | some _=>cases u with
  | none=>exact(show False from r).elim
  | some _=>exact r
variable{vs:List (κ×Value)}
theorem KV.val(r:KV kvs vs)(k:κ):z29 (z27 kvs k) (valueAt vs k):=by
 unfold KV at r
 induction r with
 | nil=>exact w0l
 | @cons p q ps qs h t c=>
  obtain⟨h1,h2⟩:=h;by_cases e:p.1=k
  ·have a:q.1=k:=h1.symm.trans e;have b:valueAt (q :: qs) k=some q.2:=by simp [valueAt,w0R,a]
   rw [z4u e,b];exact h2
  ·have a:¬q.1=k:=λz=>e (h1.trans z)
   have b:valueAt (q :: qs) k=valueAt qs k:=by simp [valueAt,w0R,a]
   rw [z4l e,b];exact c
theorem KV.any(r:KV kvs vs)(k:κ):(kvs.any λkv=>decide (kv.1=k))=vs.any λkv=>decide (kv.1=k):=by
 unfold KV at r
 induction r with
 | nil=>rfl
 | cons h t a=>rw [w1j,w1j,a,h.1]
theorem KV.repl(r:KV kvs vs)(k:κ)(b:RelV y u):
  KV (kvs.map λkv=>if kv.1=k then(kv.1,y)else kv) (vs.map λkv=>if kv.1=k then(kv.1,u)else kv):=by
 unfold KV at r ⊢
 induction r with
 | nil=>exact .nil
 | @cons p q ps qs h t a=>
  rw [wR,wR];refine .cons ?_ a;obtain⟨h1,h2⟩:=h;by_cases e:p.1=k
  ·rw [wU e,wU (h1.symm.trans e)];exact⟨h1,b⟩
  ·rw [wM e,wM (λz=>e (h1.trans z))];exact⟨h1,h2⟩
theorem KV.put(r:KV kvs vs)(k:κ)(a:RelV y u):KV (putK kvs k y) (stored vs k u):=by
 unfold putK stored;rw [r.any k];by_cases e:(vs.any λkv=>decide (kv.1=k))=true
 ·rw [wU e,wU e];exact r.repl k a
 ·rw [wM e,wM e];exact Paired.snoc r ⟨rfl,a⟩
theorem KV.keys(r:KV kvs vs):kvs.map (·.1)=vs.map (·.1):=by
 unfold KV at r
 induction r with
 | nil=>rfl
 | cons h t a=>rw [wR,wR,a,h.1]
theorem KV.length(r:KV kvs vs):kvs.length=vs.length:=Paired.length r
end
variable{P:Program}{w:World}
theorem z85{k:Key}(r:RelV (kV k) u):(jC P w).is k u=true:=by
 cases k with
 | inl i=>obtain⟨t,e⟩:=(show∃t,u=Value.int i t from r);subst e;exact z6E P w i t
 | inr x=>obtain⟨t,e⟩:=(show∃t,u=Value.str x t from r);subst e;exact z72 P w x t
theorem z5A{P:Program}{w:World}:∀{ks:List Key} {us:List Value},zP (ks.map kV) us->ItemsAre (jC P w) ks us
 | [],_,r=>by rw [qO]at r;cases r;exact .nil
 | k :: ks,_,r=>by
  rw [wR]at r;cases r with
  | cons h t=>exact .cons (z85 h) (z5A t)
abbrev KT(H:Hp):List (List Key×V)->List (List Key×Addr×Value)->Prop:=Paired λp q=>p.1=q.1/\H q.2.1=some (.tup (p.1.map kV))/\RelV p.2 q.2.2
variable{xs:List (List Key×Addr×Value)}{kvs:List (List Key×V)}
theorem KT.val(r:KT H kvs xs)(k:List Key):z29 (z27 kvs k) ((atKey xs k).map (·.2)):=by
 induction r with
 | nil=>exact w0l
 | @cons p q ps qs h t c=>
  obtain⟨h1,_,h2⟩:=h;by_cases e:p.1=k
  ·have a:q.1=k:=h1.symm.trans e;have b:atKey (q :: qs) k=some q.2:=by simp [atKey,w0R,a]
   rw [z4u e,b];exact h2
  ·have a:¬q.1=k:=λz=>e (h1.trans z)
   have b:atKey (q :: qs) k=atKey qs k:=by simp [atKey,w0R,a]
   rw [z4l e,b];exact c
theorem KT.repl(r:KT H kvs xs)(k:List Key)(c:RelV y u):
  KT H (kvs.map λkv=>if kv.1=k then(kv.1,y)else kv) (xs.map (putAt k u)):=by
 induction r with
 | nil=>exact .nil
 | @cons p q ps qs h t a=>
  rw [wR,wR];refine .cons ?_ a;obtain⟨h1,h2,b⟩:=h;unfold putAt;by_cases e:p.1=k
  ·rw [wU e,wU (h1.symm.trans e)];exact⟨h1,h2,c⟩
  ·rw [wM e,wM (λz=>e (h1.trans z))];exact⟨h1,h2,b⟩
theorem KT.put(r:KT H kvs xs)(k:List Key){b:Addr}(c:H b=some (.tup (k.map kV)))(a:RelV y u):
  KT H (putK kvs k y) (storedH xs k b u):=by
 have e:(kvs.any λkv=>decide (kv.1=k))=(atKey xs k).isSome:=by
  rw [z16,(r.val k).isSome_eq,Option.isSome_map]
 unfold putK storedH;rw [e];by_cases q:(atKey xs k).isSome=true
 ·rw [wU q,wU q];exact r.repl k a
 ·rw [wM q,wM q];exact Paired.snoc r ⟨rfl,c,a⟩
variable{H':Hp}
def KT.keeps(r:KT H kvs xs)(ht:∀b ys,H b=some (.tup ys)->H' b=some (.tup ys)):KT H' kvs xs:=
 Paired.mapP r λ_ _ z=>⟨z.1,ht _ _ z.2.1,z.2.2⟩
variable{a:Addr}
section
variable{h:Heap}
def zcy{u:HO}(ok:HOk P w H h)(e:Rd H a u):jj P w H h a u:=e.ok ok
def zba{kvs:List (Key×V)}(ok:HOk P w H h)(e:Rd H a (.dK kvs)):kvs.length<=sizeLine/\(a == sysModules)=false/\∃vs,KV kvs vs/\h.DictOf (jC P w) a vs:=
 show jj P w H h a (.dK kvs)from zcy ok e
def zcw{kvs:List (Key×V)}(ok:HOk P w H h)(e:H a=some (.dK kvs)):kvs.length<=sizeLine/\(a == sysModules)=false/\∃vs,KV kvs vs/\h.DictOf (jC P w) a vs:=zba ok (.inl e)
theorem z7a{ks:List Key}(ok:HOk P w H h)(e:H a=some (.tup (ks.map kV))):(tupleKind (jC P w)).is h ks a:=by
 obtain⟨_,a6,r,o,h1,h2,n,b⟩:=(show jj P w H h a (.tup (ks.map kV))from ok a _ e);exact⟨o,a6.toArray,n,h1,h2,b,by simpa using z5A r⟩
theorem zaO(ok:HOk P w H h)(e:Rd H a (.dT kvs)):kvs.length<=sizeLine/\(a == sysModules)=false/\
  ∃xs,KT H kvs xs/\h.DictOfH (tupleKind (jC P w)) a xs:=by
 obtain⟨z,y,xs,r,o,es,ep,h1,h2,f,d,b⟩:=(show jj P w H h a (.dT kvs)from zcy ok e);refine⟨z,y,xs,r,o,es,ep,h1,h2,f,d,λx hx=> ?_,b⟩;have all:∀{l:List (List Key×V)} {m:List (List Key×Addr×Value)},KT H l m->∀x∈m,(tupleKind (jC P w)).is h x.1 x.2.1:=by
  intro l m q
  induction q with
  | nil=>intro x hx;exact nomatch hx
  | @cons p q ps qs hq t c=>
   intro x hx;rcases wE.mp hx with e | hx
   ·subst e;exact z7a ok (by rw [<-hq.1];exact hq.2.1)
   ·exact c x hx
 exact all r x hx
def ze2(ok:HOk P w H h)(e:H a=some (.dT kvs)):kvs.length<=sizeLine/\(a == sysModules)=false/\
  ∃xs,KT H kvs xs/\h.DictOfH (tupleKind (jC P w)) a xs:=zaO ok (.inl e)
end
def zak(H:Hp)(a:Addr)(y:V)(r:Option V):Prop:=
 (∃kvs k,Rd H a (.dK kvs)/\y=kV k/\r=z27 kvs k)\/∃kvs k b,Rd H a (.dT kvs)/\y= .ref b/\H b=some (.tup (k.map kV))/\r=z27 kvs k
def z9P(H:Hp)(a:Addr)(y v:V)(H':Hp):Prop:=
 (∃kvs k,H a=some (.dK kvs)/\y=kV k/\kvs.length < sizeLine/\H'=upd H a (.dK (putK kvs k v)))\/
 ∃kvs k b,H a=some (.dT kvs)/\y= .ref b/\H b=some (.tup (k.map kV))/\kvs.length < sizeLine/\H'=upd H a (.dT (putK kvs k v))
theorem zak.k{H:Hp}{a:Addr}{kvs:List (Key×V)}{k:Key}(e:H a=some (.dK kvs)):zak H a (kV k) (z27 kvs k):= .inl ⟨kvs,k,.inl e,rfl,rfl⟩
theorem z9P.k{H:Hp}{a:Addr}{kvs:List (Key×V)}{k:Key}{v:V}(e:H a=some (.dK kvs))(hl:kvs.length < sizeLine):z9P H a (kV k) v (upd H a (.dK (putK kvs k v))):= .inl ⟨kvs,k,e,rfl,hl,rfl⟩
variable{E:Value->Shared->Prop}{h':Heap}
section
variable{σ:St}{v:V}{r:Value}
theorem Inv.big(I:Inv X pins σ H s):sysModules < s.heap.objs.size:=by
 have h:mainGlobals < s.heap.objs.size:=(I.mod.glob.keeps I.bk).lt;exact Nat.lt_trans (by decide) h
def z5M{c:HO}(I:Inv X pins σ H s)(d:Mut (H a))(hs:Heap.SameBut a s.heap h')(f:∃q,h'.get? a=some q)(new:jj X.prog X.w (upd H a c) h' a c):
  Inv X pins σ (upd H a c) {s with heap:=h',toks:=t'}:=
 I.write (x:=a) (e:=a) d (.inl rfl) (λb q h z=>(hs.2 b h).trans z) f new
def zaB{kvs:List (Key×V)}{vs:List (Key×Value)}(z:kvs.length<=sizeLine)(hd:(a == sysModules)=false)(rel:KV kvs vs)(b:h'.DictOf (jC P w) a vs):
  jj P w H' h' a (.dK kvs):=⟨z,hd,vs,rel,b⟩
theorem z9b{Q:Unit->Shared->Prop}(B:A.units + 1 < cLine)(I:Inv X pins σ H s)(g:z9P H a y v H')(i:RelV y u)(j:RelV v r)(h:∀s',Inv X pins σ H' s'->Q () s'):
  wpAny (model X.prog X.w) A (setItem (.ref a) u r) Q E s:=by
 rcases g with⟨kvs,k,e,ey,l,eH⟩ | ⟨kvs,k,b,e,ey,eb,l,eH⟩
 ·subst ey eH;obtain⟨z,hd,vs,rel,f⟩:=zcw I.hok e;have hz:vs.length<=sizeLine:=by rw [<-rel.length];exact z
  have hl:(putK kvs k v).length<=sizeLine:=by have:=z1S kvs k v;lia
  refine wpAny_setItem_pairs (hsz:=hz) (z85 i) f λh' d hs=>h _ ?_
  have p:∃q,h'.get? a=some q:=let ⟨q,_,_,hq,_⟩:=d;⟨q,hq⟩
  exact z5M I (by rw [e];exact w0l) hs p (zaB hl hd (rel.put k j) d)
 ·subst ey eH;cases (show u=Value.ref b from i);obtain⟨z,hd,xs,rel,f⟩:=ze2 I.hok e;have hz:xs.length<=sizeLine:=by rw [<-Paired.length rel];exact z
  have hl:(putK kvs k v).length<=sizeLine:=by have:=z1S kvs k v;lia
  refine wpAny_setItem_heap (hsz:=hz) (tupleKind_room_in1 B) (z7a I.hok eb) f λh' d hs=>h _ ?_
  obtain⟨q,es,ep,hq,h2,x,t,_,o⟩:=d;refine z5M I (by rw [e];exact w0l) hs ⟨q,hq⟩ ⟨hl,hd,_,(rel.put k eb j).keeps λc ys n=> ?_,q,es,ep,hq,h2,x,t,o⟩;rw [zn (z5u n e (λz=>nomatch z))];exact n
end
def zed(td ty tv:TE):TS:=λD σ H=>tv σ H λv H1=>td σ H1 λx H2=>ty σ H2 λy c=>∃a b,x= .ref a/\z9P c a y v b/\D.nx σ b
section
variable{o i value:Expr}{pos' mX:Pos}{td ty tv:TE}
theorem zbR(z:X.A.units + 1 < cLine)(t:PE X o td)(hi:PE X i ty)(l:PE X value tv)(hs:swapsWith value (some (.Subscript o i pos')) pos.line X.env=pure false):
  PS X (.Assign [.Subscript o i pos'] value pos) (zed td ty tv):=by
 intro pins s σ H D I h;refine wpAny_Assign_Subscript (thn (l pins s σ H _ I h) ?_) hs;rintro r s1 ⟨v,H1,b,f,q⟩;refine thn (t pins s1 σ H1 _ b q) ?_;rintro u s2 ⟨x,H2,c,B,p⟩;refine thn (hi pins s2 σ H2 _ c p) ?_;rintro C G ⟨y,F,w,e,a,d,ex,g,j⟩;subst ex;obtain rfl:u=Value.ref a:=B;exact z9b z w g e f λE n=>⟨σ,d,n,j⟩
end
def z6N(h:Heap)(a:sysModules < h.objs.size):jj P w H (h.push {cls:= .type "dict",data:= .dict #[]}) h.objs.size (.dK []):=
 ⟨qY _,w0b.mpr (w1h (q5 a)),[],.nil,Heap.DictOf.new h⟩
def zdl:TE:=λ_ H Q=>∀p,H p=none->Q (.ref p) (upd H p (.dK []))
def zaP:PE X (.Dict [] [] pos) zdl:=λpins s σ H Q I h=>
 wpAny_Dict_empty ⟨.ref s.heap.objs.size,_,I.laid (a:=s.heap.objs.size) (o:= .dK []) (t':=s.toks) (λ_ _ q=>wm _ q) (ww _) (z6N s.heap I.big),rfl,h _ (I.hok.fresh (ww _))⟩
def z7G:List (TE×TE)->St->Hp->(List (V×V)->Hp->Prop)->Prop
 | [],_,H,Q=>Q [] H
 | (tk,tv) :: r,σ,H,Q=>tk σ H λx H1=>tv σ H1 λy H2=>z7G r σ H2 λps a=>Q ((x,y) :: ps) a
abbrev VV:List (V×V)->List (Value×Value)->Prop:=Paired λp q=>RelV p.1 q.1/\RelV p.2 q.2
def PPs(X:Cx)(pos:Pos)(keys:List (Option Expr))(values:List Expr)(eD:List (TE×TE)):Prop:=
 ∀(pins:List (Addr×Obj)) (s:Shared) (σ:St) (H:Hp) (Q:List (V×V)->Hp->Prop),Inv X pins σ H s->z7G eD σ H Q->
  wpAny (model X.prog X.w) X.A (evalPairs (pairTrees keys values X.env pos)) (λvs s'=>∃ps H',Inv X pins σ H' s'/\VV ps vs/\Q ps H') X.xe s
def zc5:PPs X pos [] [] []:=λpins s σ H Q I h=>pairTrees_nil_walk ⟨[],H,I,.nil,h⟩
variable{eD:List (TE×TE)}
theorem z1c{k v:Expr}{ks:List (Option Expr)}{vs:List Expr}{tk tv:TE}(f:PE X k tk)(e:PE X v tv)(hr:PPs X pos ks vs eD):
  PPs X pos (some k :: ks) (v :: vs) ((tk,tv) :: eD):=λpins s σ H Q I h=>
 pairTrees_cons_walk (thn (f pins s σ H _ I h) λu s1 ⟨x,H1,a,o,j⟩=>thn (e pins s1 σ H1 _ a j) λw2 s2 ⟨y,H2,b,c,i⟩=>
  thn (hr pins s2 σ H2 _ b i) λws p ⟨ps,l,n,rel,d⟩=>⟨(x,y) :: ps,l,n,.cons ⟨o,c⟩ rel,d⟩)
noncomputable def z0U(kvs more:List (Key×V)):List (Key×V):=more.foldl (λa kv=>putK a kv.1 kv.2) kvs
theorem KV.merge:∀{more:List (Key×V)} {rs:List (Key×Value)} {kvs:List (Key×V)} {vs:List (Key×Value)},KV more rs->KV kvs vs->KV (z0U kvs more) (merged vs rs):=by
 intro more rs kvs vs r;unfold KV at r
 induction r generalizing kvs vs with
 | nil=>intro q;exact q
 | @cons p q ps qs h t a=>
  intro r0;have e:KV (putK kvs p.1 p.2) (stored vs q.1 q.2):=by
   have:=r0.put p.1 h.2;rw [<-h.1];exact this
  exact a e
theorem z2i:∀(more kvs:List (Key×V)),(z0U kvs more).length<=kvs.length + more.length
 | [],kvs=>by show kvs.length<=kvs.length + 0;lia
 | p :: r,kvs=>by
  have h1:=z2i r (putK kvs p.1 p.2);have h2:=z1S kvs p.1 p.2
  show(z0U (putK kvs p.1 p.2) r).length<=_
  rw [wJ];lia
theorem z4a{P:Program}{w:World}:∀{kvs:List (Key×V)} {ws:List (Value×Value)},VV (kvs.map λkv=>(kV kv.1,kv.2)) ws->∃rs,Carries (jC P w) ws rs/\KV kvs rs
 | [],_,r=>by rw [qO]at r;cases r;exact⟨[],w0l,.nil⟩
 | p :: kvs,_,r=>by
  rw [wR]at r;cases r with
  | @cons a b d bs h t=>
   obtain⟨rs,c,q⟩:=z4a (P:=P) (w:=w) t;obtain⟨b1,b2⟩:=b;exact⟨(p.1,b2) :: rs,⟨z85 h.1,rfl,c⟩,.cons ⟨rfl,h.2⟩ q⟩
def zej(eD:List (TE×TE)):TE:=λσ H Q=>∀p,H p=none->z7G eD σ (upd H p (.dK [])) λps H2=>H2 p=some (.dK [])/\∃kvs:List (Key×V),ps=kvs.map (λkv=>(kV kv.1,kv.2))/\kvs.length<=15/\Q (.ref p) (upd H2 p (.dK (z0U [] kvs)))
theorem zbG{keys:List (Option Expr)}{values:List Expr}(h:PPs X pos keys values eD)(i:keys.all (·.isSome)=true)(hl:keys.length=values.length)(h0:keys≠ [])
  (r:keys.length<=15):PE X (.Dict keys values pos) (zej eD):=by
 intro pins s σ H Q I q;have hn:=I.hok.fresh (ww s.heap.objs.size);have f:=I.laid (a:=s.heap.objs.size) (o:= .dK []) (h':=s.heap.push {cls:= .type "dict",data:= .dict #[]}) (t':=s.toks) (λ_ _ q=>wm _ q) (ww _) (z6N s.heap I.big);refine wpAny_Dict_walk (knd:=jC X.prog X.w) i hl h0 r (thn (h pins _ σ _ _ f (q _ hn)) ?_);rintro ws s2 ⟨ps,H2,b,rel,e,kvs,ep,t,l⟩;subst ep;obtain⟨rs,c,p⟩:=z4a (P:=X.prog) (w:=X.w) rel;obtain⟨z,hd,u,r0,n⟩:=zcw b.hok e;cases r0;refine⟨rs,c,n,λh' d hs=>⟨.ref s.heap.objs.size,_,?_,rfl,l⟩⟩;have hz:(z0U [] kvs).length<=sizeLine:=by
  have h1:=z2i kvs [];rw [Qe]at h1;rw [QW];lia
 have j:∃q,h'.get? s.heap.objs.size=some q:=let ⟨q,_,_,hq,_⟩:=d;⟨q,hq⟩
 exact z5M b (by rw [e];exact w0l) hs j (zaB hz hd (p.merge .nil) d)
structure M1(X:Cx)(o:Expr)(m:Str)(apos:Pos)(e:Expr)(af:Pos):Prop where
 base:attributeBase o m X.env (eval o X.env)=eval o X.env
 few:((backTo af (starEach [e] X.env)).all (λx=> !x.1) && (backToKw af (keywordEach [] X.env)).all (λx=>x.1.isSome)
  && decide (([e]:List Expr).length + ([]:List Keyword).length + (if([]:List Keyword).isEmpty then 0 else 1) < 30))=true
 line:(apos.endLine == af.line)=true
 trees:backTo af (starEach [e] X.env)= [(false,eval e X.env)]
structure M2(X:Cx)(o:Expr)(m:Str)(apos:Pos)(e f:Expr)(af:Pos):Prop where
 base:attributeBase o m X.env (eval o X.env)=eval o X.env
 few:((backTo af (starEach [e,f] X.env)).all (λx=> !x.1) && (backToKw af (keywordEach [] X.env)).all (λx=>x.1.isSome)
  && decide (([e,f]:List Expr).length + ([]:List Keyword).length + (if([]:List Keyword).isEmpty then 0 else 1) < 30))=true
 line:(apos.endLine == af.line)=true
 trees:backTo af (starEach [e,f] X.env)= [(false,eval e X.env),(false,eval f X.env)]
def IsD(H:Hp)(a:Addr):Prop:=(∃kvs,Rd H a (.dK kvs))\/∃kvs,Rd H a (.dT kvs)
theorem zd1{σ:St}(I:Inv X pins σ H s)(d:IsD H a):
  s.TypeIs (.ref a) "dict"/\(∀b,Value.ref a= .ref b->∃c,s.heap.get? b=some c/\c.dict=none)/\(a == sysModules)=false:=by
 rcases d with⟨kvs,e⟩ | ⟨kvs,e⟩
 ·obtain⟨_,hd,vs,_,f⟩:=zba I.hok e;refine⟨f.typeIs,λb q=> ?_,hd⟩;cases q;obtain⟨c,_,_,h1,h2,_⟩:=f;exact⟨c,h1,h2.2.1⟩
 ·obtain⟨_,hd,xs,_,f⟩:=zaO I.hok e;refine⟨f.typeIs,λb q=> ?_,hd⟩;cases q;obtain⟨c,_,_,h1,h2,_⟩:=f;exact⟨c,h1,h2.2.1⟩
section
variable{σ:St}{d:V}{r:Value}
theorem zdC{Q:Value->Shared->Prop}(n:A.units + 1 < cLine)(I:Inv X pins σ H s)(g:zak H a y o)(i:RelV y u)(f:RelV d r)(h:∀j s',Inv X pins σ H s'->RelV (o.getD d) j->Q j s'):
  wpAny (model X.prog X.w) A (call (.builtin "dict.get") [.ref a,u,r]) Q E s:=by
 rcases g with⟨kvs,k,e,ey,l⟩ | ⟨kvs,k,b,e,ey,eb,l⟩
 ·subst ey;obtain⟨z,hd,vs,rel,c⟩:=zba I.hok e;refine call_meetsIn PySem.F.slot_dict_get c.typeIs PySem.F.entry_dict_get (PySem.F.args_dict_get_3 _ _ _) (meets_dict_get_default (jC X.prog X.w) a (z85 i) hd r) ⟨_,c.mapOf,h _ _ (I.tok _) ?_⟩;rw [l];exact(rel.val k).getD f
 ·subst ey;cases (show u=Value.ref b from i);obtain⟨z,hd,xs,rel,c⟩:=zaO I.hok e;refine call_meetsIn PySem.F.slot_dict_get c.typeIs PySem.F.entry_dict_get (PySem.F.args_dict_get_3 _ _ _) (meetsH_dict_get_default (tupleKind (jC X.prog X.w)) a b hd r) ⟨tupleKind_room_in1 n,k,xs,z7a I.hok eb,c,h _ _ (I.tok _) ?_⟩;rw [l];exact(rel.val k).getD f
end
def zdk(td ty tx:TE):TE:=λσ H Q=>td σ H λx H1=>∃a,x= .ref a/\IsD H1 a/\ty σ H1 λy H2=>tx σ H2 λz b=>∃o,zak b a y o/\Q (o.getD z) b
section
variable{o f:Expr}{apos af:Pos}{td ty tx:TE}
theorem z9G(G:X.A.units + 1 < cLine)(w:PE X o td)(i:PE X e ty)(J:PE X f tx)(m:M2 X o "get" apos e f af):PE X (.Call (.Attribute o "get" apos) [e,f] [] af) (zdk td ty tx):=by
 intro pins s σ H Q I h;refine wpAny_Call_method m.base m.few m.line PySem.F.plainAttrs_dict PySem.F.slot_dict_get PySem.F.type_dict_get (thn (w pins s σ H _ I h) ?_);rintro u s1 ⟨x,H1,b,K,a,ex,d,t⟩;subst ex;obtain rfl:u=Value.ref a:=K;obtain⟨C,n,_⟩:=zd1 b d;refine⟨C,n,?_⟩;rw [m.trees];refine Calls.callWith_builtin rfl (Calls.evalArgs_plain (QU (thn (i pins s1 σ H1 _ b t) λN s2 ⟨y,H2,c,j,r⟩=>
  QU (thn (J pins s2 σ H2 _ c r) λO R ⟨z,D,E,p,L,g,l⟩=>w0X ?_))))
 exact zdC G E g j p λM P q B=>⟨_,D,q,B,l⟩
end
end L2
namespace Att
open PySem PySem.W PySem.Calls PyProof.Rows
variable{P:Params}{h:Heap}
theorem z3D:∀(ns:List Int) (vs:List Value),WellAll P h vs (ns.map WData.int)->IntsAre vs ns:=by
 intro ns
 induction ns with
 | nil=>
  intro vs w;rw [qO]at w;cases w;exact .nil
 | cons n ns c=>
  intro vs w;rw [wR]at w;cases w with
  | cons a b=>
   cases a;exact .cons _ _ (c _ b)
variable{l:OpenLaw}{n:Nat}
theorem z94(hn:l.most=some n){args:List WData}{vals:List Value}
  (e:l.row.toRowW.claim.pre args=true) (f:WellAll P h vals args):
  ∃a vs ns,vals= [Value.ref a]/\args= [WData.list (ns.map WData.int)]/\h.get? a=some {cls:= .type "list",data:= .seq vs.toArray}/\IntsAre vs ns/\ns.length<=n:=by
 have o:WShape.hasAll [] args [.list .int]=true:=(pre_splitW e).1;have hc:l.pre.holds [] {args:=args}=true:=(pre_splitW e).2;obtain⟨d,r,rfl,h1,h2⟩:=hasAllW_cons o;obtain rfl:=hasAllW_nil h2;obtain⟨xs,rfl,p⟩:=hasW_list h1;obtain⟨ns,rfl⟩:=items_int p;have hlen:ns.length<=n:=by
  unfold OpenLaw.pre at hc;have c:(WTm.not (.lt (.lit (.int (n:Int))) (.len (.arg 0)))).holds [] {args:= [.list (ns.map .int)]}=true:=by
   have c:=(holds_andW hc).1;rw [hn]at c;exact c
  have b:=condW_of c (w_not (w_lt w_lit (w_len_list (w_arg rfl))));rw [w9]at b;refine Nat.le_of_not_lt λq=> ?_
  have q':(n:Int) < ((ns.length:Nat):Int):=by lia
  first
   | (rw [wN q']at b;exact absurd b (by decide))
   | (simp at b;lia)
 cases f with
 | cons w1 w2=>
  cases w2;cases w1 with
  | list j i=>exact⟨_,_,ns,rfl,rfl,j,z3D ns _ i,hlen⟩
theorem z9g(l:OpenLaw)(args:List WData):l.row.toRowW.claim.post args (.bool true) args=true:=
 postW_of (r:=l.row.toRowW) (X:=(true == true))
  (show WShape.has [] (.bool true) .bool=true by first | rfl | decide | simp [WShape.has,WShape.arms,WShape.armsAll])
  (show(WTm.eq .res (.lit (.bool true))).value [] {args:=args,res:=some (.bool true),after:=args}=some (.bool (true == true))from w_eq_bool (w_res rfl) w_lit) rfl
theorem attach_call{q:Program}{loose:List Str}{e:(Str->Option Value)->Heap->Prop}{i:World->Heap->Prop}{d:DefRec}
  (hn:l.most=some n) (u:d.params.defaults= [])
  (call:∀(w:World) (s₀ b:Shared) (mg mb:Str->Option Value) (c:Addr) (o:Obj) (pm cd aR:Value) (a:Addr) (vs:List Value) (ns:List Int),
   Ground q loose [] e w s₀ mg mb b.heap->i w b.heap->
   b.heap.get? c=some o->o.data= .func (docDef d.name d.params d.body d.scope pm cd aR)->b.heap.CodeRec cd d.name->mg d.name=some (.ref c)->
   b.heap.get? a=some {cls:= .type "list",data:= .seq vs.toArray}->IntsAre vs ns->ns.length<=n->b.gens= #[]->
   codeAny (model l.prog w) callerA (.call (.ref c) ⟨[.ref a],[]⟩) (λr s'=>r= .ok (.ret (.bool true))/\OldK b.heap s'.heap/\s'.os=b.os/\AllBare s'.gens) b):
  WalkO q loose e i l.row.toRowW d [] (λf vs=>PySem.call f vs):=by
 intro w s₀ b mg mb G Y c o pm cd aR B kV z hd t h x y args vals F p D E j H;obtain rfl:B= .none:=Dflts.none h u;obtain rfl:kV= .none:=Dflts.noKw h;obtain⟨a,vs,ns,rfl,rfl,s,hints,hlen⟩:=z94 hn p j;refine enter_call (w0p (call w s₀ b mg mb c o pm cd aR a vs ns G Y z (fd_plain hd) t x s hints hlen y) λr s' hq=> ?_);obtain⟨rfl,h2,C,A⟩:=hq;exact⟨.inl ⟨.bool true,.bool true,[],rfl,λ_=>rfl,.bool true,z9g l _,λ_=>⟨List.Pairwise.nil,λ_ hm=>(nomatch hm)⟩⟩,h2,C,A⟩
end Att
namespace L2
open PySem PySem.Spec PyProof.Rows
def z58:∀{vs:List Value} {ns:List Int},IntsAre vs ns->zP (ns.map V.int) vs
 | _,_,.nil=> .nil
 | _,_,.cons n t h=> .cons ⟨t,rfl⟩ (z58 h)
noncomputable def z0g(s:Stmt):Arguments:=match s with
 | .FunctionDef _ a _ _ _ _ _ _ _ _=>a
 | _=>{posonlyargs:= [],args:= [],vararg:=none,kwonlyargs:= [],kw_defaults:= [],kwarg:=none,defaults:= []}
noncomputable def ym(s:Stmt):List Stmt:=match s with
 | .FunctionDef _ _ b _ _ _ _ _ _ _=>b
 | _=> []
noncomputable def zm(s:Stmt):Scope:=match s with
 | .FunctionDef _ _ _ _ _ _ sc _ _ _=>sc
 | _=>{kind:= .function,names:= [],isGenerator:=false,isCoroutine:=false}
abbrev CX0:CXT:=λ_ _ _ _ _ _=>False
abbrev E0:XK:=λ_ _ _=>False
variable{X:Cx}
def z3t:z1e CX0 X E0:=λ_ _ _ _ _ _ _ h=>h.elim
structure Fun(K:W.Frag)(x qual:Str)(st:Stmt)(f:Addr)(fd:FuncData):Prop where
 ex:∃(oc:Value) (od:Option Addr) (kV aR pm:Value) (an:Option Addr) (ac ct:Value) (cu:Array (Option Value)),
  fd=PySem.W.fnOf x qual (z0g st) (ym st) (zm st) .none kV aR pm an ac ct/\K.lookup f=some ⟨oc,od,.func fd,cu⟩/\PySem.W.codeIn K ac qual=true
 kp:PySem.W.keepIn K (.ref f)=true
variable{x qual:Str}{st:Stmt}{f:Addr}{fd:FuncData}
section
variable{P:Program}{w:World}{K:W.Frag}{mg:Str->Option Value}{base:Heap}{ps:List Str}
theorem Fun.ok{N:List Str}{k:Nat}{sp:Sp}(F:Fun K x qual st f fd)(S:FnScope N ps (zm st))(len:∀vs H Q E,sp vs H Q E->vs.length=ps.length)
  (c:∀(ac:Value) (A:Around) (outer:List Env) (s:Shared) (H:Hp) (vs:List V) (Q:VK) (E:XK),Room k (A.deeper (envOfC qual (zm st) s.heap.objs.size f ac))->sp vs H Q E->
   ∃t,PSs (z38 CX0 P w K mg base N qual (zm st) f ac A outer s H E).nox (ym st) t/\t {nx:=λ_ H'=>Q .non H',rt:=Q} (start N vs) H):FnOk P w K mg base CX0 (k + 1) f fd ps sp:=by
 obtain⟨oc,od,kV,aR,pm,an,ac,ct,cu,rfl,a,b⟩:=F.ex;refine zcu a b S len λA outer s H vs Q E hr d=> ?_
 obtain⟨t,h,q⟩:=c ac A outer s H vs Q E hr d;exact⟨t,h.nox,q⟩
theorem Fun.binds(F:Fun K x qual st f fd)
  (h:∀(kV aR pm:Value) (an:Option Addr) (ac ct:Value) (us:List Value),us.length=ps.length->bindArgs (PySem.W.fnOf x qual (z0g st) (ym st) (zm st) .none kV aR pm an ac ct) ⟨us,[]⟩=pure (ps.zip us)):Binds K fd ps []:=by
 obtain⟨oc,od,kV,aR,pm,an,ac,ct,cu,rfl,a,b⟩:=F.ex;exact .all (h kV aR pm an ac ct)
def z69{oc:Value}{od an:Option Addr}{cu:Array (Option Value)}{kV aR pm ac ct:Value}(l:K.lookup f=some ⟨oc,od,.func (PySem.W.fnOf x qual (z0g st) (ym st) (zm st) .none kV aR pm an ac ct),cu⟩)
  (c:PySem.W.codeIn K ac qual=true) (k:PySem.W.keepIn K (.ref f)=true):Fun K x qual st f (PySem.W.fnOf x qual (z0g st) (ym st) (zm st) .none kV aR pm an ac ct):=⟨⟨oc,od,kV,aR,pm,an,ac,ct,cu,rfl,l,c⟩,k⟩
end
theorem z1u{A:Around}{k:Nat}(hr:Room k A):A.units + 1 < cLine:=Nat.lt_of_le_of_lt (Nat.add_le_add_left (by decide:1<=64) _) hr.units
theorem pv(i:Nat){pos:Pos}(b:X.N[i]? =some x:=by rfl)(c:Vis X.env.scope x:=by first | exact QV rfl | exact QH (QV rfl) | exact QH (QH rfl))(hd:(x == ("__debug__":Str))=false:=by decide)
  (a:(x == ("__classdict__":Str))=false:=by decide):PE X (.Name x pos) (z6k i):=z2p b c hd a
variable{A B:Prop}
theorem z7H(h:B):if false=true then A else B:=by
 rw [wM wQ];exact h
theorem z7U(h:A):if true=true then A else B:=by
 rw [wU rfl];exact h
theorem yV{c:Prop} [Decidable c] (h1:c->A)(h2:¬c->B):if c then A else B:=by
 by_cases h:c
 ·rw [wU h];exact h1 h
 ·rw [wM h];exact h2 h
def zz(H H':Hp):Prop:=∀b o,H b=some o->H' b=some o
def zz.refl(H:Hp):zz H H:=λ_ _ h=>h
variable{H:Hp}
theorem zz.trans{H1 H2:Hp}(a:zz H H1)(b:zz H1 H2):zz H H2:=λc o h=>b c o (a c o h)
theorem zz.free{H':Hp}(e:zz H H'){l:Addr}(h:H' l=Option.none):H l=Option.none:=by
 cases q:H l with
 | none=>rfl
 | some o=>
  rw [e l o q]at h;cases h
theorem zz.seq{K:W.Frag}{H':Hp}{a:Addr}{xs:List V}(e:zz H H')(h:SqL K H a xs):SqL K H' a xs:=by
 rcases h with(h | ⟨o,h⟩) | h
 ·exact .inl (.inl (e _ _ h))
 ·exact .inl (.inr ⟨o,e _ _ h⟩)
 ·exact .inr h
section
variable{κ:Type}[DecidableEq κ]{kvs:List (κ×V)}
theorem zav{k:κ}(h:z27 kvs k=none):¬k∈kvs.map (·.1):=by
 intro m;obtain⟨p,hp,e⟩:=qA.mp m;have q:(kvs.any λkv=>decide (kv.1=k))=true:=w14.mpr ⟨p,hp,wN e⟩;rw [z16,h]at q;exact absurd q (by simp)
theorem zbk{k:κ}{v:V}(h:z27 kvs k=some v):k∈kvs.map (·.1):=by
 have q:(kvs.any λkv=>decide (kv.1=k))=true:=by
  rw [z16,h]
  all_goals rfl
 obtain⟨p,hp,e⟩:=w14.mp q;exact qA.mpr ⟨p,hp,qi e⟩
theorem z8A:∀{l:List κ} {k:κ},l.Nodup->¬k∈l->(l ++ [k]).Nodup
 | [],k,_,_=>by simp
 | a :: r,k,h,b=>by
  obtain⟨h1,h2⟩:=w0e.mp h
  show(a :: (r ++ [k])).Nodup
  refine w0e.mpr ⟨λm=> ?_,z8A h2 λm=>b (wE.mpr (QH m))⟩;rcases wx.mp m with q | q
  ·exact h1 q
  ·exact b (wE.mpr (QV (wu.mp q).symm))
end
end L2
set_option Elab.async false
set_option linter.all false
set_option maxRecDepth 100000

namespace L2
open PySem PySem.Spec PyProof.Rows
variable{H:Hp}
theorem zJ{p:Addr}(h:H p=none)(o:HO):zz H (upd H p o):=λb u q=>by rw [zn (zy q h)];exact q
variable{l:Addr}{o:HO}
theorem zz.put{H':Hp}(e:zz H H')(h:H l=none):zz H (upd H' l o):=λb u q=>by
 rw [zn (zy q h)];exact e b u q
def Kp(l:Addr)(H H':Hp):Prop:=∀b o,b≠l->H b=some o->H' b=some o
def Kp.refl:Kp l H H:=λ_ _ _ h=>h
theorem z2q:Kp l H (upd H l o):=λb u n h=>by rw [zn n];exact h
variable{n:Nat}
theorem ja(h:n<=1000000):n<=sizeLine:=by
 have:sizeLine=16777216:=QW
 lia
theorem zG(h:n<=1000000):n < sizeLine:=by
 have:sizeLine=16777216:=QW
 lia
variable{X:Cx}
theorem j6:yZ X (.builtin "isinstance") (λxs H Q=>∃x n t b,xs= [x,.ty n]/\TyOf X.K H x t/\PySem.W.kitOne X.K t (.type n)=some b/\Q (.bl b) H):=by
 intro pins s σ H xs us Q I r h;obtain⟨x,n,t,b,rfl,ty,e,q⟩:=h;obtain⟨u,c,rfl,a,d⟩:=vals2 r;cases (show c=Value.type n from d);exact z95 I a ty e λtk=>⟨.bl b,H,I.tok _,rfl,q⟩
variable{K:W.Frag}
theorem jZ{n:String}:PySem.W.kitOne K (.type n) (.type n)=some true:=by
 unfold PySem.W.kitOne;rw [wU (QX _)]
theorem z1O:PySem.W.kitOne K (.type "int") (.type "str")=some false:=by kernel_rfl
theorem z4Y:PySem.W.kitOne K (.type "str") (.type "tuple")=some false:=by kernel_rfl
theorem z51:PySem.W.kitOne K (.type "int") (.type "tuple")=some false:=by kernel_rfl
theorem z5J:PySem.W.kitOne K (.type "int") (.type "bool")=some false:=by kernel_rfl
def zb4(K:W.Frag):V->List V->Hp->VK->Prop:=λx vs H Q=>∃l xs y j,x= .ref l/\vs= [y]/\SqL K H l xs/\yM y=true/\xs.all yM=true/\
 (∃z,xs[j]? =some z/\eqV z y=true)/\(∀m z,m < j->xs[m]? =some z->eqV z y=false)/\Q (.int ((j:Nat):Int)) H
theorem z0z:MtM X "list.index" (zb4 X.K):=by
 intro pins s σ H x vs v us Q I D o h;obtain⟨l,xs,y,j,rfl,rfl,hq,G,fs,⟨z,hz,E⟩,t,q⟩:=h;cases D;obtain⟨u,rfl,p⟩:=o.one;obtain⟨a6,r,pl,hsz⟩:=I.list hq;obtain⟨⟨cls,A,data,sl⟩,e,hc,n,hd⟩:=pl.isList;simp only at hc hd;subst hc hd;have hl:=r.length;have hn:=z2n;have J:j < xs.length:=(we.mp hz).1;have f:j < a6.length:=by lia
 refine call_meets Q8 ⟨_,e,rfl⟩ PySem.F.entry_list_index (PySem.F.args_list_index_2 _ _)
  (SeqAt.list_indexAt l a6.toArray n A sl u (eqU y) j (by rw [wy];exact f) (by lia) ?_ ?_) ⟨e,λw C=>z19 p G r fs w (by simpa using C),⟨.int ((j:Nat):Int),H,I.tok _,⟨_,rfl⟩,q⟩⟩
 ·obtain⟨w,d,a⟩:=r.get hz;have c:a6[j]=w:=(we.mp d).2
  show eqU y a6[j]=true
  rw [c,z5P a (qH.mp fs z (qD hz))];exact E
 ·intro m hm B;have L:m < a6.length:=by rw [wy]at hm;exact hm
  have i:m < xs.length:=by lia
  have b:xs[m]? =some xs[m]:=wa i;obtain⟨w,d,a⟩:=r.get b;have c:a6[m]=w:=(we.mp d).2
  show eqU y a6[m]=false
  rw [c,z5P a (qH.mp fs _ (qD b))];exact t m _ B b
def zcI(K:W.Frag):R2:=λx y H Q=>∃a b xs,x= .ref a/\y= .ref b/\SqL K H a xs/\SqL K H b []/\Q (.bl xs.isEmpty) H
theorem z1L(p:X.A.units + 1 < cLine):OpR X (compareOp .Eq) (zcI X.K):=by
 intro pins s σ H x y v u Q I o f h;have d:X.A.units < cLine:=by lia
 obtain⟨a,b,xs,rfl,rfl,ha,i,q⟩:=h;cases o;cases f;obtain⟨a6,r,pl,hz⟩:=I.list ha;obtain⟨n,r2,c,_⟩:=I.list i;have l:n= []:=r2.zero;subst l;cases r with
 | nil=>exact SeqAt.eq_listAt (e:=λ_=>true) pl.isList c.isList rfl d (λj h1 _=>absurd h1 (by simp)) ⟨.bl true,H,I,by simp [RelV],q⟩
 | cons r1 r2=>exact SeqAt.eq_list_lengthsAt pl.isList c.isList (by simp) d ⟨.bl false,H,I,rfl,q⟩
variable{c:Bool}
theorem ifT{A B:Prop}(h:c=true)(a:A):if c=true then A else B:=by rw [wU h];exact a
theorem ifF{A B:Prop}(h:c=false)(b:B):if c=true then A else B:=by rw [wM (by rw [h];exact wQ)];exact b
theorem qbl{Q:VK}{a b:Bool}(e:a=b)(q:Q (.bl b) H):Q (.bl a) H:=by rw [e];exact q
theorem z40{i j:Int}:decide (V.int i=V.int j)=decide (i=j):=by
 rw [w0d];simp
theorem zW{i j:Str}:decide (V.str i=V.str j)=decide (i=j):=by
 rw [w0d];simp
section
variable{a b:Expr}{ta tb:TE}{pos:Pos}{tA eB:TT}
def zeq(ta tb:TE):TE:=λσ H Q=>ta σ H λx H1=>∃c,x= .bl c/\∃d,(tb σ H1 λy H2=>y= .bl d/\H2=H1)/\Q (.bl (c && d)) H1
theorem zbn(ha:PE X a ta)(l:PE X b tb):PE X (.BoolOp .And [a,b] pos) (zeq ta tb):=by
 intro pins s σ H Q I h;refine BoolOp_and (thn (ha pins s σ H _ I h) ?_);rintro v s1 ⟨x,H1,i,r1,f⟩;obtain⟨c,rfl,d,o,f⟩:=f;cases r1;refine w09 ?_;cases c with
 | true=>
  refine BoolOp_one (thn (l pins s1 σ H1 _ i o) ?_);rintro v2 s2 ⟨y,H2,j,r2,e,n⟩;subst e n;exact⟨.bl d,H2,j,r2,by rw [w0Y]at f;exact f⟩
 | false=>exact⟨.bl false,H1,i,rfl,by rw [w11]at f;exact f⟩
def zdU(tA tB:TT):TT:=λσ H Q=>tA σ H λc H1=>∃d,(tB σ H1 λd' H2=>d'=d/\H2=H1)/\Q (c && d) H1
def zeD(tA tB:TT):TT:=λσ H Q=>tA σ H λc H1=>∃d,(tB σ H1 λd' H2=>d'=d/\H2=H1)/\Q (c || d) H1
theorem z3M(ha:PT X a tA)(l:PT X b eB):PT X (.BoolOp .And [a,b] pos) (zdU tA eB):=by
 intro pins s σ H Q I h;refine isTrue_and (thn (ha pins s σ H _ I h) ?_);rintro c s1 ⟨H1,i,d,o,f⟩;cases c with
 | true=>
  refine isTrue_and (thn (l pins s1 σ H1 _ i o) ?_);rintro p s2 ⟨H2,j,e,n⟩;subst e n;rw [w0Y]at f;cases p with
  | true=>exact isTrue_and_nil ⟨H2,j,f⟩
  | false=>exact⟨H2,j,f⟩
 | false=>exact⟨H1,i,by rw [w11]at f;exact f⟩
theorem z1Q(ha:PT X a tA)(l:PT X b eB):PT X (.BoolOp .Or [a,b] pos) (zeD tA eB):=by
 intro pins s σ H Q I h;refine isTrue_or (thn (ha pins s σ H _ I h) ?_);rintro c s1 ⟨H1,i,d,o,f⟩;cases c with
 | false=>
  refine isTrue_or (thn (l pins s1 σ H1 _ i o) ?_);rintro p s2 ⟨H2,j,e,n⟩;subst e n;rw [Bool.false_or]at f;cases p with
  | false=>exact isTrue_or_nil ⟨H2,j,f⟩
  | true=>exact⟨H2,j,f⟩
 | true=>exact⟨H1,i,by rw [Bool.true_or]at f;exact f⟩
def zam(c:TT)(t u:TS):TS:=λD σ H=>∃J:St->Hp->Prop,(c σ H λb H1=>if b=true then t {D with nx:=J} σ H1 else u {D with nx:=J} σ H1)/\∀σ' H',J σ' H'->D.nx σ' H'
theorem kO{c:Expr}{a b:List Stmt}{tc:TT}{t u:TS}(hc:PT X c tc)(ha:PSs X a t)(j:PSs X b u):PS X (.If c a b pos) (zam tc t u):=by
 intro pins s σ H D I h;obtain⟨J,h,n⟩:=h;have fin:∀(f:Flow) (s':Shared),SP X pins {D with nx:=J} f s'->SP X pins D f s':=λf s' q=>by
  cases f with
  | next=>obtain⟨σ',H',l,q⟩:=q;exact⟨σ',H',l,n _ _ q⟩
  | ret v=>exact q
  | brk=>exact q
  | cont=>exact q
 refine wpAny_If (thn (hc pins s σ H _ I h) ?_);rintro d s1 ⟨H1,e,i⟩;cases d with
 | true=>exact thn (ha pins s1 σ H1 _ e i) fin
 | false=>exact thn (j pins s1 σ H1 _ e i) fin
end
def z0H{c:TT}{tb:TS}{D:Ends}{σ:St}(W:Nat->St->Hp->Prop)(m:Nat)(h0:W m σ H)
  (hs:∀m σ H,W m σ H->c σ H λb H1=>if b=true then∃N:St->Hp->Prop,(∀σ' H',N σ' H'->∃a,a < m/\W a σ' H')/\tb {D with nx:=N,ct:=N,bk:=D.nx} σ H1 else D.nx σ H1):z1r c tb D σ H:=
 ⟨W,⟨m,h0⟩,hs⟩
structure Kn(P:Program)(w:World)(K:W.Frag)(mg:Str->Option Value)(base:Heap)(k:Nat)(x:Str)(ps:List Str)(sp:Sp):Prop where
 ex:∃(f:Addr) (fd:FuncData),FnOk P w K mg base CX0 k f fd ps sp/\mg x=some (.ref f)/\PySem.W.keepIn K (.ref f)=true/\Binds K fd ps []
theorem z6H{k:Nat}{x:Str}{ps:List Str}{sp:Sp}{e:Expr}{es:List Expr}{t:TA}{p pos:Pos}(C:Kn X.prog X.w X.K X.mg X.base k x ps sp)(hr:Room k X.A)(i:Gl X x)(ha:PA X (e :: es) t)
  (c:(x == ("__debug__":Str))=false:=by decide) (a:starEach (e :: es) X.env=(false,eval e X.env) :: starEach es X.env:=by rfl) (d:(backTo pos (starEach es X.env)).any (·.1)=false:=by rfl):
  PE X (.Call (.Name x p) (e :: es) [] pos) (zay sp [] E0 t):=by
 obtain⟨f,fd,F,hm,h,b⟩:=C.ex;exact zbw F hr i hm h b .nil z3t ha c a d
variable{α:Type}
theorem z1V(gs:List α)(x:α):(gs ++ [x])[(gs ++ [x]).length - 1]? =some x:=by simp
def z3J{l:List α}(h:l≠ []):∃gs x,l=gs ++ [x]:=⟨l.dropLast,l.getLast h,(List.dropLast_concat_getLast h).symm⟩
variable{x:α}{r:List α}
def zD:atI (x :: r) 0=some x:=zX (j:=0) rfl
def jc{y:α}:atI (x :: y :: r) 1=some y:=zX (j:=1) rfl
def ji{y z:α}:atI (x :: y :: z :: r) 2=some z:=zX (j:=2) rfl
theorem zbp{xs:List α}{i:Int}{v:α}(h0:0<=i)(h:xs[i.toNat]? =some v):atI xs i=some v:=by
 have e:i=((i.toNat:Nat):Int):=by lia
 rw [e];exact zX h
theorem jd(ss:List Str):(ss.map V.str).all yM=true:=by
 rw [qH];intro x a;obtain⟨s,_,rfl⟩:=qA.mp a
 rfl
theorem yT{ss:List Str}{s:Str}(h:s∈ss):(∃z,(ss.map V.str)[ss.idxOf s]? =some z/\eqV z (.str s)=true)/\∀m z,m < ss.idxOf s->(ss.map V.str)[m]? =some z->eqV z (.str s)=false:=by
 have a:ss.idxOf s < ss.length:=qP.mpr h;refine⟨⟨.str s,?_,?_⟩,λm z hm hz=> ?_⟩
 ·rw [wO,wa a,List.getElem_idxOf a]
  rfl
 ·show(s == s)=true
  exact QX s
 ·have b:m < ss.length:=by lia
  rw [wO,wa b]at hz;cases hz
  show(ss[m] == s)=false
  have h2:m < ss.findIdx (· == s):=hm;exact List.not_of_lt_findIdx h2
end L2

namespace L2
open PySem PySem.Spec PyProof.Rows
variable{A:Around}{R:Result->Shared->Prop}{s:Shared}{bq iter:Expr}{b9:List Expr}{scope:Scope}{pos:Pos}{env:Env}
theorem z67{prog:Program}{w:World}{target:Expr}{it u:Value}(I:Nat->Shared->Prop)
  (turn:∀n s,I n s->wpAny (model prog w) A (pyNext it) (λr t=>match r with
   | none=>R (.ok .next) t
   | some v=>wpAny (model prog w) A (letOwnedTupleGo target it v) (λ_ b=>wpAny (model prog w) A (assign target env v) (λ_ i=>
     wpAny (model prog w) A (forIn b9 true λc r=>if r=true then do let ok<-isTrue c env (eval c env);pure (ForInStep.yield ok)else pure (ForInStep.yield r)) (λok a=>
      if ok=true then wpAny (model prog w) A (eval bq env) (λx f=>
       wpAny (model prog w) A (call (.builtin "list.append") [u,x]) (λ_ d=>∃m,m < n/\I m d) (notedBy (model prog w) A env λe s'=>R (.error e) s') f) (notedBy (model prog w) A env λe s'=>R (.error e) s') a
      else∃m,m < n/\I m a) (notedBy (model prog w) A env λe s'=>R (.error e) s') i) (notedBy (model prog w) A env λe s'=>R (.error e) s') b) (notedBy (model prog w) A env λe s'=>R (.error e) s') t) (notedBy (model prog w) A env λe s'=>R (.error e) s') s)
  (n:Nat) (h:I n s):
  codeAny (model prog w) A (.compLoop (.ListComp bq [⟨target,iter,b9,0⟩] scope pos) 0 it u env) R s:=by
 refine codeAny_loop rfl I (λn s z=> ?_) n h
 show wpAny _ A ((compTurn (.ListComp bq [⟨target,iter,b9,0⟩] scope pos) 0 it u env).onRaise (λx=>do noteFrame x env;theTreesLotGoes x)) _ _ s
 refine wpAny_noted ?_;rw [compTurn_list];refine wz (wpAny_standAt (wz (QK (turn n s z) (λr t y=> ?_) λ_ _ h'=>h')));cases r with
 | none=>exact wZ y
 | some v=>
  refine wz (QK y (λ_ b l=> ?_) λ_ _ h'=>h');refine wz (QK l (λ_ i p=>wz (QK p (λok a j=> ?_) λ_ _ h'=>h')) λ_ _ h'=>h');cases ok with
  | false=>exact wZ ⟨rfl,j⟩
  | true=>
   exact wz (wz (QK j (λx f q=>wz (QK q (λ_ d o=>wZ (wZ ⟨rfl,o⟩)) λ_ _ h'=>h')) λ_ _ h'=>h'))
noncomputable def z01(env:Env):List (Str×NameKind)->List (Str×Addr)->List (Str×Addr)
 | [],a=>a
 | (n,k) :: r,a=>z01 env r (if k == .free then(n,(env.cells.lookup n).getD 0) :: a else a)
theorem z84{env:Env}(f:Str×NameKind->List (Str×Addr)->Sem (ForInStep (List (Str×Addr))))
  (j:∀name kind cells,f (name,kind) cells=if kind == .free then(do let a<-cellOf env name;pure (.yield ((name,a) :: cells)))else pure (.yield cells)):
  ∀(names:List (Str×NameKind)) (b:List (Str×Addr)),(∀y∈names,y.2= .free->∃c,env.cells.lookup y.1=some c)->forIn names b f=(pure (z01 env names b):Sem (List (Str×Addr)))
 | [],b,_=>by rw [List.forIn_nil];rfl
 | (n,k) :: r,b,h=>by
  rw [List.forIn_cons,j];have i:=λb=>z84 f j r b λy l=>h y (wY _ l)
  unfold z01;cases hk:k == NameKind.free with
  | true=>
   obtain⟨c,hc⟩:=h (n,k) qE (Qi.mp hk);have e:cellOf env n=(pure c:Sem Addr):=by
    unfold cellOf;have d:env.cells.lookup n=some c:=hc;rw [d]
   have d:env.cells.lookup n=some c:=hc;simp only [w0M,e,pure_bind,d,Option.getD_some];exact i _
  | false=>
   simp only [Bool.false_eq_true,w0v,pure_bind];exact i _
theorem kS(h:∀y∈scope.names,y.2= .free->∃c,env.cells.lookup y.1=some c):closureFor scope env=pure (z01 env scope.names []):=by
 simp only [closureFor];rw [z84 (env:=env) _ (λname kind cells=>by cases hk:kind == NameKind.free <;> simp [hk]) scope.names [] h]
 rfl
theorem z3d{env:Env}:∀(names:List (Str×NameKind)) (b:List (Str×Addr)),(∀y∈names,y.2= .free->∃c,env.cells.lookup y.1=some c)->(∀y c,b.lookup y=some c->env.cells.lookup y=some c)->
  ∀y c,(z01 env names b).lookup y=some c->env.cells.lookup y=some c
 | [],_,_,ha=>ha
 | (n,k) :: r,b,h,ha=>by
  unfold z01;refine z3d r _ (λy a=>h y (wY _ a)) λy c e=> ?_
  cases hk:k == NameKind.free with
  | true=>
   rw [hk,wU rfl,qC]at e;obtain⟨c',hc⟩:=h (n,k) qE (Qi.mp hk);have d:env.cells.lookup n=some c':=hc;cases a:y == n with
   | true=>
    rw [a]at e;rw [d]at e;cases e;rw [Qi.mp a];exact d
   | false=>
    rw [a]at e;exact ha y c e
  | false=>
   rw [hk,wM wQ]at e;exact ha y c e
theorem z71{env:Env}:∀(names:List (Str×NameKind)) (a:List (Str×Addr)) (y:Str),((y,NameKind.free)∈names\/∃c,a.lookup y=some c)->∃c,(z01 env names a).lookup y=some c
 | [],_,y,h=>by
  rcases h with h | h
  ·cases h
  ·exact h
 | (n,k) :: r,a,y,h=>by
  unfold z01;refine z71 r _ y ?_;rcases h with h | ⟨c,h⟩
  ·rcases wE.mp h with e | h
   ·cases e;refine .inr ?_;simp [qC]
   ·exact .inl h
  ·refine .inr ?_;by_cases hk:(k == NameKind.free)=true
   ·rw [wU hk,qC];cases y == n with
    | true=>exact⟨_,rfl⟩
    | false=>exact⟨c,h⟩
   ·rw [wM hk];exact⟨c,h⟩
theorem z3K:∀(names:List (Str×NameKind)) (h:Heap) (d:List (Str×Addr)) (y:Str) (c:Addr),(cellsFrom h.objs.size names d).lookup y=some c->
  ((pushCells h names).IsCell c none/\h.objs.size<=c/\(y,NameKind.cell)∈names)\/d.lookup y=some c
 | [],_,_,_,_,e=> .inr e
 | (n,k) :: r,h,d,y,c,e=>by
  unfold cellsFrom at e;unfold pushCells;by_cases hk:(k == NameKind.cell)=true
  ·rw [wU hk]at e ⊢;have f:(cellsFrom (h.push {cls:= .type "cell",data:= .cell none}).objs.size r ((n,h.objs.size) :: d)).lookup y=some c:=by rw [Qg];exact e
   rcases z3K r (h.push {cls:= .type "cell",data:= .cell none}) ((n,h.objs.size) :: d) y c f with⟨a1,a2,a3⟩ | a
   ·rw [Qg]at a2;exact .inl ⟨a1,by lia,wY _ a3⟩
   ·rw [qC]at a;cases hy:y == n with
    | true=>
     rw [hy]at a;cases a;refine .inl ⟨Heap.IsCell.keeps ⟨_,qc _ rfl,rfl⟩ λb o q=>w0A r _ b o q,ww _,?_⟩;rw [Qi.mp hy,Qi.mp hk];exact qE
    | false=>
     rw [hy]at a;exact .inr a
  ·rw [wM hk]at e ⊢;rcases z3K r h d y c e with⟨a1,a2,a3⟩ | a
   ·exact .inl ⟨a1,a2,wY _ a3⟩
   ·exact .inr a
theorem z6c:∀(names:List (Str×NameKind)) (n:Nat) (a:List (Str×Addr)) (y:Str),(y,NameKind.cell)∉names->(cellsFrom n names a).lookup y=a.lookup y
 | [],_,_,_,_=>rfl
 | (m,k) :: r,n,a,y,h=>by
  unfold cellsFrom;by_cases hk:(k == NameKind.cell)=true
  ·rw [wU hk,z6c r (n + 1) _ y λz=>h (wY _ z),qC];have:(y == m)=false:=w0b.mpr λz=>h (by rw [z,Qi.mp hk];exact qE)
   rw [this]
  ·rw [wM hk];exact z6c r n a y λz=>h (wY _ z)
theorem z7O:∀(names:List (Str×NameKind)) (n:Nat) (a:List (Str×Addr)) (y:Str),((y,NameKind.cell)∈names\/∃c,a.lookup y=some c)->∃c,(cellsFrom n names a).lookup y=some c
 | [],_,_,_,h=>by
  rcases h with h | h
  ·cases h
  ·exact h
 | (m,k) :: r,n,a,y,h=>by
  unfold cellsFrom;by_cases hk:(k == NameKind.cell)=true
  ·rw [wU hk];refine z7O r (n + 1) _ y ?_;rcases h with h | ⟨c,h⟩
   ·rcases wE.mp h with e | h
    ·cases e;exact .inr ⟨n,by simp [qC]⟩
    ·exact .inl h
   ·refine .inr ?_;rw [qC];cases y == m with
    | true=>exact⟨_,rfl⟩
    | false=>exact⟨c,h⟩
  ·rw [wM hk];refine z7O r n a y ?_;rcases h with h | h
   ·rcases wE.mp h with e | h
    ·cases e;exact absurd rfl hk
    ·exact .inl h
   ·exact .inr h
theorem z7g:∀(names:List (Str×NameKind)) (n:Nat) (a:List (Str×Addr)),(∀y c,a.lookup y=some c->c < n)->(∀y z c,a.lookup y=some c->a.lookup z=some c->y=z)->
  ∀y z c,(cellsFrom n names a).lookup y=some c->(cellsFrom n names a).lookup z=some c->y=z
 | [],_,_,_,hi=>hi
 | (m,k) :: r,n,a,f,hi=>by
  unfold cellsFrom;by_cases hk:(k == NameKind.cell)=true
  ·rw [wU hk];refine z7g r (n + 1) _ (λy c e=> ?_) λy z c d b=> ?_
   ·rw [qC]at e;cases hy:y == m with
    | true=>rw [hy]at e;cases e;exact w0m n
    | false=>rw [hy]at e;exact Q5 (f y c e)
   ·rw [qC]at d b;cases hy:y == m with
    | true=>
     rw [hy]at d;cases d;cases hz:z == m with
     | true=>rw [Qi.mp hy,Qi.mp hz]
     | false=>rw [hz]at b;exact absurd (f z n b) (QO _)
    | false=>
     rw [hy]at d;cases hz:z == m with
     | true=>rw [hz]at b;cases b;exact absurd (f y n d) (QO _)
     | false=>rw [hz]at b;exact hi y z c d b
  ·rw [wM hk];exact z7g r n a f hi
theorem z3r{M:Model}{E:Value->Shared->Prop}{globals:Addr}{cl:List (Str×Addr)}{qual:Str}{Q:Env->Shared->Prop}
  (a:Q {scope:=scope,locals:=s.heap.objs.size,globals:=globals,cells:=cellsFrom (s.heap.push {cls:= .type "dict",data:= .dict #[]}).objs.size scope.names cl,qual:=qual,func:=none,code:=env.code,frame:=env.frame,builtins:=env.builtins}
   {s with heap:=pushCells (s.heap.push {cls:= .type "dict",data:= .dict #[]}) scope.names}):
  wpAny M A (newFunctionEnv scope globals cl [] qual none .none (some env)) Q E s:=by
 simp only [newFunctionEnv,Option.isSome_some,w0M];refine wz (wpAny_alloc ?_);refine wz (wpAny_layCells _ (λname kind cells=>by cases fI:kind == NameKind.cell <;> simp [fI]) _ _ _ _ ?_);rw [List.forIn_nil];exact wz (wZ (wZ a))
noncomputable abbrev zY(X:Cx)(scope:Scope)(a:List Str)(C:Addr)(cells:List (Str×Addr))(s₀:Shared)(H₀:Hp)(ex:List Addr)(pins:List (Addr×Obj)):Cx:=
 {prog:=X.prog,w:=X.w,K:=X.K,mg:=X.mg,base:=X.base,A:=X.A,N:=a,s₀:=s₀,H₀:=H₀,env:=compEnvC scope cells C X.env,outer:=X.stack,stack:=X.stack,ex:=ex,fn:=λy=>decide ((y,NameKind.cell)∈scope.names),calm:=X.calm,pn:=X.pn ++ pins,xe:=λ_ _=>False}
structure CompSc(X:Cx)(scope:Scope)(x:Str)(fr:List Str)(ix:List Nat):Prop where
 kind:scope.kind= .function
 names:∀y∈scope.names,y.2= .local->scope.names.lookup y.1=some .local
 uniq:(scope.names.map (·.1)).Nodup
 xloc:scope.names.lookup x=some .local\/scope.names.lookup x=some .cell
 clo:∀y∈scope.names,y.2= .free->X.env.kindOf y.1=some .cell\/X.env.kindOf y.1=some .free
 free:∀(k:Nat) (y:Str),fr[k]? =some y->∃j,ix[k]? =some j/\X.N[j]? =some y/\scope.names.lookup y=some .free
 nd:(x :: fr).Nodup
 len:fr.length=ix.length
noncomputable def sub(σ:St)(ix:List Nat)(x:Option V):St:=x :: ix.map λj=>(σ[j]?).getD none
def z6y(X:Cx)(b9:List Expr)(t:TT):Prop:=
 ∀(pins:List (Addr×Obj)) (s:Shared) (σ:St) (H:Hp) (Q:Bool->Hp->Prop),Inv X pins σ H s->t σ H Q->
  wpAny (model X.prog X.w) X.A (forIn b9 true λc r=>if r=true then do let ok<-isTrue c X.env (eval c X.env);pure (ForInStep.yield ok)else pure (ForInStep.yield r)) (TP X pins σ Q) X.xe s
def z7X:TT:=λ_ H Q=>Q true H
variable{X:Cx}
def jM:z6y X [] z7X:=λ_ _ _ H _ I h=>wpAny_tests_nil ⟨H,I,h⟩
def z0F{c:Expr}{t:TT}(h:PT X c t):z6y X [c] t:=λpins s σ H Q I q=>wpAny_tests_one (h pins s σ H Q I q)
theorem yq{env:Env}:∀{names:List (Str×NameKind)} {y:Str} {k:NameKind},names.lookup y=some k->
  (names.map λ(n,k)=>if(k == NameKind.free && env.scope.kind == .function && env.kindOf n == some .cell)then(n,NameKind.cell)else(n,k)).lookup y=some (if(k == NameKind.free && env.scope.kind == .function && env.kindOf y == some .cell)then NameKind.cell else k)
 | [],_,_,h=>by simp at h
 | (n,k') :: r,y,k,h=>by
  rw [qC]at h;rw [wR];cases hy:y == n with
  | true=>
   rw [hy]at h;cases h;have e:y=n:=Qi.mp hy;subst e;by_cases hc:(k' == NameKind.free && env.scope.kind == .function && env.kindOf y == some .cell)=true
   ·simp only [hc,w0M,qC,QX]
   ·simp only [hc,w0v,qC,QX];simp
  | false=>
   rw [hy]at h;have a:=yq (env:=env) (names:=r) h;by_cases hc:(k' == NameKind.free && env.scope.kind == .function && env.kindOf n == some .cell)=true
   ·simp only [hc,w0M,qC,hy];exact a
   ·show List.lookup y ((if(k' == NameKind.free && env.scope.kind == .function && env.kindOf n == some .cell)=true then(n,NameKind.cell)else(n,k')) :: _)=_
    rw [wM hc,qC,hy];exact a
theorem z5r:∀{names:List (Str×NameKind)} {y:Str} {k:NameKind},
  (names.map λ(n,k)=>if(k == NameKind.free && env.scope.kind == .function && env.kindOf n == some .cell)then(n,NameKind.cell)else(n,k)).lookup y=some k->∃k',names.lookup y=some k'/\k=(if(k' == NameKind.free && env.scope.kind == .function && env.kindOf y == some .cell)then NameKind.cell else k')
 | names,y,k,h=>by
  cases e:names.lookup y with
  | some k'=>
   have:=yq (env:=env) e;rw [this]at h;exact⟨k',rfl,(Option.some.inj h).symm⟩
  | none=>
   exfalso
   induction names with
   | nil=>simp at h
   | cons p r a=>
    obtain⟨n,k'⟩:=p;rw [qC]at e;cases hy:y == n with
    | true=>rw [hy]at e;cases e
    | false=>
     rw [hy]at e;refine a ?_ e;rw [wR]at h;by_cases hc:(k' == NameKind.free && env.scope.kind == .function && env.kindOf n == some .cell)=true
     ·simpa only [hc,w0M,qC,hy]using h
     ·simpa [hc,qC,hy]using h
def lookup_mem{α:Type}{l:List (Str×α)}{n:Str}{c:α}(h:l.lookup n=some c):(n,c)∈l:=Qd h
theorem z7S:∀(names:List (Str×NameKind)) (n:Nat) (a:List (Str×Addr)) (y:Str) (c:Addr),(y,NameKind.cell)∈names->(cellsFrom n names a).lookup y=some c->n<=c
 | [],_,_,_,_,h,_=>by cases h
 | (m,k) :: r,n,a,y,c,h,e=>by
  unfold cellsFrom at e;by_cases hr:(y,NameKind.cell)∈r
  ·by_cases hk:(k == NameKind.cell)=true
   ·rw [wU hk]at e;exact Nat.le_of_succ_le (z7S r (n + 1) _ y c hr e)
   ·rw [wM hk]at e;exact z7S r n a y c hr e
  ·rcases wE.mp h with q | q
   ·cases q;rw [wU (QX _),z6c r (n + 1) _ _ hr,qC,QX]at e;cases e;exact ww _
   ·exact absurd q hr
theorem z5i:∀{names:List (Str×NameKind)} {y:Str} {k k':NameKind},(names.map (·.1)).Nodup->names.lookup y=some k->(y,k')∈names->k=k'
 | [],_,_,_,_,h,_=>by simp at h
 | (n,kk) :: r,y,k,k',hn,h,hm=>by
  rw [wR]at hn;obtain⟨h1,h2⟩:=w0e.mp hn;rw [qC]at h;cases hy:y == n with
  | true=>
   rw [hy]at h;cases h;rcases wE.mp hm with e | hm
   ·cases e;rfl
   ·exact absurd (qA.mpr ⟨_,hm,rfl⟩) (by rw [Qi.mp hy];exact h1)
  | false=>
   rw [hy]at h;rcases wE.mp hm with e | hm
   ·cases e;rw [QX]at hy;cases hy
   ·exact z5i h2 h hm
variable{pins:List (Addr×Obj)}{H:Hp}{x:Str}{fr:List Str}{ix:List Nat}{fp:List Addr}
section
variable{σ:St}
noncomputable abbrev jm:Obj:={cls:= .type "list",data:= .seq ([]:List Value).toArray}
noncomputable abbrev z07:Obj:={cls:= .type "dict",data:= .dict #[]}
theorem zah{σ4:St}{h:Hp}{f:Shared}{cells:List (Str×Addr)}{J:List Str}{C D:Addr}{pl:List (Addr×Obj)}{a6:List Value}{ys:List V}{k:Nat}{h':Heap}(I:Inv X pins σ H s)(F:∀b∈fp,z3w X pins H b)
  (j:Inv (zY X scope J C cells s H fp pins) pl σ4 h f) (t:s.heap.objs.size<=D) (E:s.heap.objs.size<=C) (B:D≠C) (x:h D=none) (L:f.heap.get? D=some {cls:= .type "list",data:= .seq a6.toArray k}) (r:zP ys a6) (hz:ys.length<=sizeLine)
  (y:Heap.SameBut C f.heap h'):Inv X pins σ (upd h D (.lst ys)) {f with heap:=h'}:=by
 have u:Un (frs X.stack) fp H h s.heap f.heap:=j.base;have ne:∀b o,s.heap.get? b=some o->b≠C/\b≠D:=λb o e=>by
  have:=wL e;exact⟨q5 (wT this E),q5 (wT this t)⟩
 have l:H D=none:=I.hok.fresh t;have p:h C=none:=j.free;have i:∀b,b≠C->h'.get? b=f.heap.get? b:=λb a=>y.2 b a
 have N:Un (frs X.stack) fp H (upd h D (.lst ys)) s.heap h':=by
  refine⟨λb o e n a d=> ?_,λb o e n a d=> ?_,λb o e n d=> ?_,λb o e d=> ?_,λb xs e=> ?_,λb o w e=> ?_,λb ps e=> ?_⟩
  ·rw [i b (ne b o e).1];exact u.keep b o e n a d
  ·rw [i b (ne b o e).1];exact u.slot b o e n a d
  ·rw [zn (ne b o e).2];exact u.free b o e n d
  ·rw [i b (ne b o e).1];exact u.there b o e d
  ·rw [zn (zy e l)];exact u.tups b xs e
  ·rw [zn (zy e l)];exact u.frzs b o w e
  ·rw [zn (zy e l)];exact u.tbls b ps e
 have hok:HOk X.prog X.w (upd h D (.lst ys)) h':=λb o e=>by
  by_cases a:b=D
  ·subst a;rw [zj]at e;cases e;exact⟨hz,a6,k,r,(i b B).trans L⟩
  ·rw [zn a]at e;refine(j.hok b o e).stay (λc v hc q=> ?_) (λc q=> ?_) λc xs q=> ?_
   ·have G:c≠C:=by
     rintro rfl;rcases hc with z | z
     ·rw [<-z,p]at e;cases e
     ·rw [p]at z;cases z
    exact(i c G).trans q
   ·rw [zn (zy q x)];exact q
   ·rw [zn (zy q x)];exact q
 exact I.call' (s':={f with heap:=h'}) (ch:=fp) j.os N hok j.bare λb a=>by
  obtain⟨_,f1,_,K,M,A⟩:=F b a;exact⟨K,f1,M,A⟩
end
def z0q(J:It)(σ:St)(ix:List Nat)(tc:TT)(te:TE)(Q:List V->Hp->Prop)(H1:Hp):Prop:=
 ∃W:Nat->Nat->List V->Hp->Prop,(∃m,W 0 m [] H1)/\∀i m ys H,W i m ys H->ys.length < sizeLine/\
  ((J.stop i H/\Q ys H)\/(J.go i H/\∃(e:V->Hp->Prop) (c:Hp->Prop),(∀y d,e y d->∃a,a < m/\W (i + 1) a (ys ++ [y]) d)/\(∀H2,c H2->∃a,a < m/\W (i + 1) a ys H2)/\
   ∀x H',J.yld i H x H'->tc (sub σ ix (some x)) H' λb H2=>if b=true then te (sub σ ix (some x)) H2 e else c H2))
structure CompScG(X:Cx)(scope:Scope)(xs:List Str)(fr:List Str)(ix:List Nat):Prop where
 kind:scope.kind= .function
 names:∀y∈scope.names,y.2= .local->scope.names.lookup y.1=some .local
 uniq:(scope.names.map (·.1)).Nodup
 clo:∀y∈scope.names,y.2= .free->X.env.kindOf y.1=some .cell\/X.env.kindOf y.1=some .free
 free:∀(k:Nat) (y:Str),fr[k]? =some y->∃j,ix[k]? =some j/\X.N[j]? =some y/\scope.names.lookup y=some .free
 nd:(xs ++ fr).Nodup
 len:fr.length=ix.length
noncomputable def z74(σ:St)(ix:List Nat)(a:List (Option V)):St:=a ++ ix.map λj=>(σ[j]?).getD none
noncomputable def z6G(sx:Scope)(NX:List Str)(scope:Scope)(xs fr:List Str)(ix:List Nat):Bool:=
 (scope.kind == .function) && scope.names.all (λy=>y.2 != .local || scope.names.lookup y.1 == some .local) && decide ((scope.names.map (·.1)).Nodup) &&
 scope.names.all (λy=>y.2 != .free || (sx.names.lookup y.1 == some .cell || sx.names.lookup y.1 == some .free)) &&
 decide (fr.length=ix.length) && decide ((xs ++ fr).Nodup) && (fr.zip ix).all λp=>NX[p.2]? == some p.1 && scope.names.lookup p.1 == some .free
variable{xs:List Str}
theorem CompScG.of{sx:Scope}{NX:List Str}(hs:X.env.scope=sx)(j:X.N=NX)(h:z6G sx NX scope xs fr ix=true):CompScG X scope xs fr ix:=by
 simp only [z6G,qT,decide_eq_true_eq,Qi,qH,Bool.or_eq_true,bne_iff_ne,ne_eq]at h;obtain⟨⟨⟨⟨⟨⟨h1,h2⟩,l⟩,d⟩,c⟩,i⟩,f⟩:=h;refine⟨h1,λy b a=> ?_,l,λy b a=> ?_,λk y e=> ?_,i,c⟩
 ·rcases h2 y b with q | q
  ·exact absurd a q
  ·exact q
 ·show X.env.scope.names.lookup y.1=_\/X.env.scope.names.lookup y.1=_
  rw [hs];rcases d y b with q | q
  ·exact absurd a q
  ·exact q
 ·have a:k < ix.length:=by rw [<-c];exact(we.mp e).1
  have hz:(fr.zip ix)[k]? =some (y,ix[k]):=by
   rw [List.getElem?_zip_eq_some];exact⟨e,wa a⟩
  obtain⟨a1,a2⟩:=f _ (qD hz);exact⟨ix[k],wa a,by rw [j];exact a1,a2⟩
section
variable{σ:St}
theorem z7I(S:CompScG X scope xs fr ix)(I:Inv X pins σ H s)(G:∀b∈fp,z3w X pins H b)(R:∀b∈fp,b < s.heap.objs.size):
  Inv (zY X scope (xs ++ fr) (s.heap.push jm).objs.size (cellsFrom ((s.heap.push jm).push z07).objs.size scope.names (z01 X.env scope.names [])) s H fp pins) [] (z74 σ ix (List.replicate xs.length none)) H
   {s with heap:=pushCells ((s.heap.push jm).push z07) scope.names}:=by
 have Z:∀y∈scope.names,y.2= .free->∃c,X.env.cells.lookup y.1=some c:=λy h hk=>I.ok.has y.1 (S.clo y h hk)
 have A:∀y c,(z01 X.env scope.names []).lookup y=some c->X.env.cells.lookup y=some c:=z3d scope.names [] Z λy c e=>by simp at e
 have F:∀y,(y,NameKind.free)∈scope.names->∃c,(z01 X.env scope.names []).lookup y=some c:=λy h=>z71 scope.names [] y (.inl h)
 have T:∀y c,(z01 X.env scope.names []).lookup y=some c->c < s.heap.objs.size:=λy c e=>by
  obtain⟨v,q⟩:=I.cell y c (A y c e);exact q.lt
 have x:(s.heap.push jm).objs.size=s.heap.objs.size + 1:=Qg ..;have E:((s.heap.push jm).push z07).objs.size=s.heap.objs.size + 2:=by rw [Qg,x]
 have up:∀b o,s.heap.get? b=some o->(pushCells ((s.heap.push jm).push z07) scope.names).get? b=some o:=λb o e=>w0A _ _ b o (wm _ (wm _ e))
 have D:∀y c,(cellsFrom ((s.heap.push jm).push z07).objs.size scope.names (z01 X.env scope.names [])).lookup y=some c->
   ((pushCells ((s.heap.push jm).push z07) scope.names).IsCell c none/\s.heap.objs.size + 2<=c/\(y,NameKind.cell)∈scope.names)\/X.env.cells.lookup y=some c:=λy c e=>by
  rcases z3K scope.names ((s.heap.push jm).push z07) (z01 X.env scope.names []) y c e with⟨a1,a2,a3⟩ | a
  ·rw [E]at a2;exact .inl ⟨a1,a2,a3⟩
  ·exact .inr (A y c a)
 have ok:(zY X scope (xs ++ fr) (s.heap.push jm).objs.size (cellsFrom ((s.heap.push jm).push z07).objs.size scope.names (z01 X.env scope.names [])) s H fp pins).Ok:=by
  refine⟨I.ok.mod,S.kind,I.ok.glob,I.ok.blt,?_,?_,?_,?_,I.ok.hd,I.ok.frames,.inl rfl,?_,I.bs,wV I.ok.bsz I.sz,?_,?_,I.stack,I.stkFree⟩
  ·show s.heap.objs.size<=(s.heap.push jm).objs.size
   rw [x]
   lia
  ·exact z7g scope.names _ _ (λy c e=>by rw [E];exact wT (T y c e) (Nat.le_add_right _ 2)) λy z c w f=>I.ok.inj y z c (A y c w) (A z c f)
  ·intro y h;refine z7O scope.names _ _ y ?_;have fF:(relabel scope X.env).names.lookup y=some .cell\/(relabel scope X.env).names.lookup y=some .free:=h;rcases fF with fF | fF
   ·obtain⟨k',e,l⟩:=z5r fF;by_cases hc:(k' == NameKind.free && X.env.scope.kind == .function && X.env.kindOf y == some .cell)=true
    ·rw [qT,qT]at hc;have f:=Qi.mp hc.1.1;subst f;exact .inr (F y (lookup_mem e))
    ·rw [wM hc]at l;subst l;exact .inl (lookup_mem e)
   ·obtain⟨k',e,l⟩:=z5r fF;by_cases hc:(k' == NameKind.free && X.env.scope.kind == .function && X.env.kindOf y == some .cell)=true
    ·rw [wU hc]at l;cases l
    ·rw [wM hc]at l;subst l;exact .inr (F y (lookup_mem e))
  ·intro y c h e;have hm:(y,NameKind.cell)∈scope.names:=qi h;have:=z7S scope.names _ _ y c hm e
   show s.heap.objs.size<=c
   rw [E]at this
   lia
  ·intro b t;have L:=R b t;refine⟨?_,λy c e=> ?_⟩
   ·show b≠(s.heap.push jm).objs.size
    rw [x];exact q5 (Q5 L)
   ·rcases D y c e with⟨_,a2,_⟩ | a
    ·exact QF (wT L (wV (Nat.le_add_right _ 2) a2))
    ·exact(G b t).2.2.2.2.1 y c a
  ·intro b o e t;obtain⟨_,_,_,f3,_⟩:=G b t;rcases f3 with f3 | f3
   ·exact I.ok.noex b o e f3
   ·exact absurd (wT (wL e) (wV I.ok.bsz f3)) (QO _)
  ·intro b t z;obtain⟨_,f1,f2,_⟩:=G b t;rcases wE.mp (I.stkSub b z)with e | e
   ·exact f1 e
   ·exact f2 e
 refine⟨ok,rfl,I.bare,Un.kept up,⟨_,(Heap.Ns.new (s.heap.push jm) (.type "dict")).keeps (w0A _ _),λi y v w f e3=> ?_⟩,λy c e=> ?_,?_,λy c e=> ?_,λp hp=> ?_,I.hok.kept up,?_⟩
 ·have f:(List.replicate xs.length none ++ ix.map λj=>(σ[j]?).getD none)[i]? =some (some v):=f;have w:(xs ++ fr)[i]? =some y:=w;by_cases bV:i < xs.length
  ·rw [Qt (by rw [w0q];exact bV),List.getElem?_replicate,wU bV]at f;cases f
  ·obtain⟨k,rfl⟩:∃k,i=xs.length + k:=⟨i - xs.length,by lia⟩
   have U:fr[k]? =some y:=by rw [Q7 (by lia),Nat.add_sub_cancel_left]at w;exact w
   have K:(ix.map λj=>(σ[j]?).getD none)[k]? =some (some v):=by rw [Q7 (by rw [w0q];lia),w0q,Nat.add_sub_cancel_left]at f;exact f
   obtain⟨j,O,Y,C⟩:=S.free k y U;rw [wO,O]at K;have B:(σ[j]?).getD none=some v:=Option.some.inj K;have M:σ[j]? =some (some v):=by
    cases q:σ[j]? with
    | none=>rw [q]at B;cases B
    | some o=>rw [q]at B;exact Qa some B
   have hk:=S.clo (y,NameKind.free) (lookup_mem C) rfl;obtain⟨m,hn,hl⟩:=I.loc;obtain⟨u,N,r⟩:=hl j y v Y M (.inr hk);refine⟨u,N,.inr ⟨?_,?_⟩⟩
   ·have q:=yq (env:=X.env) C
    show(relabel scope X.env).names.lookup y=_\/(relabel scope X.env).names.lookup y=_
    rw [show(relabel scope X.env).names.lookup y=_ from q];by_cases hc:(NameKind.free == NameKind.free && X.env.scope.kind == .function && X.env.kindOf y == some .cell)=true
    ·rw [wU hc];exact .inl rfl
    ·rw [wM hc];exact .inr rfl
   ·rcases r with⟨r,_⟩ | ⟨_,c,hc,aG⟩
    ·rcases hk with hk | hk
     ·rw [show X.env.kindOf y=_ from hk]at r;cases r
     ·rw [show X.env.kindOf y=_ from hk]at r;cases r
    ·refine⟨c,?_,aG.keeps up⟩;have P:(y,NameKind.cell)∉scope.names:=λz=>by
      have:=z5i S.uniq C z;cases this
     show(cellsFrom _ scope.names _).lookup y=some c
     rw [z6c scope.names _ _ y P];obtain⟨c',J⟩:=F y (lookup_mem C);have:=A y c' J;rw [hc]at this;cases this;exact J
 ·rcases D y c e with⟨a1,_,_⟩ | a
  ·exact⟨none,a1⟩
  ·obtain⟨v,q⟩:=I.cell y c a;exact⟨v,q.keeps up⟩
 ·show H (s.heap.push jm).objs.size=none
  exact I.hok.fresh (by rw [x];lia)
 ·rcases D y c e with⟨_,a2,_⟩ | a
  ·exact I.hok.fresh (by lia)
  ·exact I.freeC y c a
 ·have aa:p∈X.pn ++ pins:=by simpa using hp
  obtain⟨e,n,ne,nf,d⟩:=I.pin p aa;have Q:=wL e;refine⟨up _ _ e,n,?_,λz=> ?_,d⟩
  ·show p.1≠(s.heap.push jm).objs.size
   rw [x];exact q5 (Q5 Q)
  ·rcases wE.mp (I.stkSub p.1 z)with q | q
   ·exact ne q
   ·exact nf q
 ·show(z74 σ ix (List.replicate xs.length none)).length=(xs ++ fr).length
  unfold z74;rw [wb,w9,wb,S.len,w0q]
end
def z1U(J:It)(g:TG)(tc:TT)(te:TE)(Q:List V->Hp->Prop)(σ0:St)(H1:Hp):Prop:=
 ∃(d:St->Prop) (W:Nat->Nat->List V->Hp->Prop),d σ0/\(∃m,W 0 m [] H1)/\∀i m ys σ H,d σ->W i m ys H->ys.length < sizeLine/\
  ((J.stop i H/\Q ys H)\/(J.go i H/\∃(f:V->Hp->Prop) (e:Hp->Prop),(∀y c,f y c->∃a,a < m/\W (i + 1) a (ys ++ [y]) c)/\(∀H2,e H2->∃a,a < m/\W (i + 1) a ys H2)/\
   ∀x H',J.yld i H x H'->g x σ H' λσ2 H2=>d σ2/\tc σ2 H2 λb c=>if b=true then te σ2 c f else e c))
variable{Q:List V->Hp->Prop}{wi:TI}{tc:TT}{te:TE}{J:It}{j:Nat}{y:Str}{py bW:Pos}
section
variable{tg:Expr}{g:TG}
theorem z4i{σ:St}{it:Addr}{tn:Nat->Heap->Prop}(hc:X.calm=true)(S:CompScG X scope xs fr ix)
  (dy:∀C cells s₀ H₀ ex pins,PE (zY X scope (xs ++ fr) C cells s₀ H₀ ex pins) bq te) (dz:∀C cells s₀ H₀ ex pins,z6y (zY X scope (xs ++ fr) C cells s₀ H₀ ex pins) b9 tc)
  (fL:∀C cells s₀ H₀ ex pins,PG (zY X scope (xs ++ fr) C cells s₀ H₀ ex pins) tg g) (I:Inv X pins σ H s) (T:Turn X.prog X.w X.K tg J fp it tn) (st:tn 0 s.heap) (P:∀b∈fp,z3w X pins H b) (h:z1U J g tc te Q (z74 σ ix (List.replicate xs.length none)) H)
  (hR:∀x ys U,(∃m,x.heap.Ns (s.heap.push jm).objs.size m)->Q ys U->U s.heap.objs.size=none->U (s.heap.push jm).objs.size=none->(∀h',Heap.SameBut (s.heap.push jm).objs.size x.heap h'->Inv X pins σ (upd U s.heap.objs.size (.lst ys)) {x with heap:=h'})->R (.ok .next) x):
  codeAny (model X.prog X.w) X.A (.compLoop (.ListComp bq [⟨tg,iter,b9,0⟩] scope pos) 0 (.ref it) (.ref s.heap.objs.size)
   (compEnvC scope (cellsFrom ((s.heap.push jm).push z07).objs.size scope.names (z01 X.env scope.names [])) (s.heap.push jm).objs.size X.env)) R {s with heap:=pushCells ((s.heap.push jm).push z07) scope.names}:=by
 obtain⟨Sh,W,uM,⟨m0,w0⟩,turn⟩:=h;have Z:∀b∈fp,b < s.heap.objs.size:=λb f=>by
  obtain⟨o,e,_⟩:=T.obj 0 _ st b f;exact wL e
 have I0:=z7I S I P Z;have z1:(s.heap.push jm).objs.size=s.heap.objs.size + 1:=Qg ..;have up:∀b o,s.heap.get? b=some o->(pushCells ((s.heap.push jm).push z07) scope.names).get? b=some o:=λb o e=>w0A _ _ b o (wm _ (wm _ e))
 have rn:(pushCells ((s.heap.push jm).push z07) scope.names).get? s.heap.objs.size=some {cls:= .type "list",data:= .seq ([]:List Value).toArray}:=
  w0A _ _ _ _ (wm _ (qc _ rfl))
 have br:∀y∈scope.names,y.2= .free->∃c,X.env.cells.lookup y.1=some c:=λy hy hk=>I.ok.has y.1 (S.clo y hy hk)
 have cB:∀y c,(cellsFrom ((s.heap.push jm).push z07).objs.size scope.names (z01 X.env scope.names [])).lookup y=some c->c≠s.heap.objs.size:=λy c e=>by
  rcases z3K scope.names ((s.heap.push jm).push z07) (z01 X.env scope.names []) y c e with⟨_,a2,_⟩ | a
  ·rw [Qg,z1]at a2;exact QF (wT (Q5 (w0m _)) a2)
  ·obtain⟨v,q⟩:=I.cell y c (z3d scope.names [] br (λy c e=>by simp at e) y c a);exact q5 q.lt
 generalize cellsFrom ((s.heap.push jm).push z07).objs.size scope.names (z01 X.env scope.names [])=cells at I0 cB ⊢;generalize hCe:(s.heap.push jm).objs.size=C at I0 hR z1 ⊢;generalize hDe:s.heap.objs.size=D at z1 rn cB Z hR ⊢;have lH:D≠C:=by lia
 have j:s.heap.objs.size<=D:=by lia
 have N:s.heap.objs.size<=C:=by lia
 have uN:∀p∈X.pn ++ pins,p.1≠D:=λp hp=>by
  have:=wL (I.pin p hp).1;exact q5 (hDe ▸ this)
 have aj:D∉frs X.stack:=λz=>by
  rcases wE.mp (I.stkSub D z)with e | e
  ·have:=I.lt;rw [<-e,hDe]at this;exact QO _ this
  ·exact I.nofs j e
 refine z67 (λn s'=>∃i ys a6 k G H',Inv (zY X scope (xs ++ fr) C cells s H fp pins) [] G H' s'/\tn i s'.heap/\(∀b∈fp,H' b=none)/\s'.heap.get? D=some {cls:= .type "list",data:= .seq a6.toArray k}/\H' D=none/\zP ys a6/\Sh G/\W i n ys H') ?_ m0
  ⟨0,[],[],0,_,H,I0,T.keep _ _ _ st λb f o e=>up b o e,λb f=>(P b f).1,rn,I.hok.fresh j,.nil,uM,w0⟩
 rintro n s3 ⟨i,ys,a6,k,G,O,I3,aD,gU,uO,nj,Y,uP,w3⟩;obtain⟨cW,hU⟩:=turn i n ys G O uP w3;have hlen:=Y.length;have E:D≠(zY X scope (xs ++ fr) C cells s H fp pins).env.locals:=lH;have L:Inv (zY X scope (xs ++ fr) C cells s H fp pins) [(D,{cls:= .type "list",data:= .seq a6.toArray k})] G O s3:=I3.pins_of λp hp=>by
  rw [wu.mp hp];exact⟨uO,nj,E,aj,λv z=>by cases z⟩
 have nk:∀{H':Hp},(∀b∈fp,H' b=none)->∀b∈fp,z3w (zY X scope (xs ++ fr) C cells s H fp pins) [(D,{cls:= .type "list",data:= .seq a6.toArray k})] H' b:=λ{H'} hn b f=>by
  obtain⟨e1,e2⟩:=I3.ok.exf b f;refine⟨hn b f,e1,I3.ok.exfs b f,.inl f,e2,λp hp=> ?_⟩;rcases wx.mp hp with hp | hp
  ·exact(P b f).2.2.2.2.2 p hp
  ·rw [wu.mp hp];have:=Z b f;exact QF this
 rcases hU with⟨stop,q⟩ | ⟨go,NY,NN,uQ,uR,step⟩
 ·refine thn (T.done (zY X scope (xs ++ fr) C cells s H fp pins) rfl rfl rfl hc i _ s3 _ O _ L (nk gU) aD stop) ?_;rintro r x ⟨hr,I4⟩;subst hr;have uS:=(I4.pin (D,{cls:= .type "list",data:= .seq a6.toArray k}) (wF _ (wu.mpr rfl))).1;obtain⟨m,hn,_⟩:=I4.loc;exact hR x ys O ⟨m,hn⟩ q nj I4.free λh' sb=>zah I P I4 j N lH nj uS Y (w1t cW) sb
 ·refine thn (T.item (zY X scope (xs ++ fr) C cells s H fp pins) rfl rfl rfl hc i _ s3 _ O _ L (nk gU) aD go) ?_;rintro r x ⟨u,hr,h4⟩;subst hr;refine thn h4 ?_;rintro _ s5 ⟨v,H5,I5,r5,y5,fD,mV⟩;have ae:=I5.pinned (nk mV) (T.obj _ _ fD);refine QK (fL C cells s H fp pins _ s5 _ H5 v u _ ae r5 (step v H5 y5)) (?_) λ_ _ z=>z.elim
  rintro _ s6 ⟨σ6,H6,I6,rq,q6⟩;refine QK (dz C cells s H fp pins _ s6 _ H6 _ I6 q6) (?_) λ_ _ z=>z.elim
  rintro b s7 ⟨H7,I7,q7⟩;have rA:∀{B:Hp} {l:Shared} {σ8:St},Inv (zY X scope (xs ++ fr) C cells s H fp pins) ([(D,{cls:= .type "list",data:= .seq a6.toArray k})] ++ z4x fp s5.heap) σ8 B l->tn (i + 1) l.heap/\(∀b∈fp,B b=none)/\l.heap.get? D=some {cls:= .type "list",data:= .seq a6.toArray k}/\B D=none:=λ{B l σ8} t=>by
   refine⟨T.keep _ _ _ fD λb f o e=>(t.pin (b,o) (wF _ (wF _ (z1j f e)))).1,λb f=> ?_,?_,?_⟩
   ·obtain⟨o,e,d⟩:=T.obj _ _ fD b f;exact(t.pin (b,o) (wF _ (wF _ (z1j f e)))).2.1
   ·exact(t.pin (D,{cls:= .type "list",data:= .seq a6.toArray k}) (wF _ (qe _ (wu.mpr rfl)))).1
   ·exact(t.pin (D,{cls:= .type "list",data:= .seq a6.toArray k}) (wF _ (qe _ (wu.mpr rfl)))).2.1
  cases b with
  | false=>
   rw [wM wQ]at q7 ⊢;obtain⟨m',hm,w7⟩:=uR _ q7;obtain⟨t1,t2,M,t4⟩:=rA I7;exact⟨m',hm,i + 1,ys,a6,k,σ6,H7,I7.pins_of λp hp=>(by cases hp),t1,t2,M,t4,Y,rq,w7⟩
  | true=>
   rw [wU rfl]at q7 ⊢;refine QK (dy C cells s H fp pins _ s7 _ H7 _ I7 q7) (?_) λ_ _ z=>z.elim
   rintro y l ⟨w,B,t,r8,q8⟩;obtain⟨m',hm,w8⟩:=uQ _ _ q8;obtain⟨t1,t2,M,t4⟩:=rA t;refine call_meets F.slot_list_append ⟨_,M,rfl⟩ F.entry_list_append (F.args_list_append_2 _ _) (PySem.list_append D a6.toArray k y (by rw [wy];lia)) ⟨M,?_⟩;obtain⟨k9,uT⟩:∃k9,(l.heap.update D (Obj.mapSeq (·.push y))).get? D=some {cls:= .type "list",data:= .seq (a6 ++ [y]).toArray k9}:=⟨_,by
    rw [show(a6 ++ [y]).toArray=a6.toArray.push y by simp];exact PySem.IsL.update M (·.push y)⟩
   have ad:Inv (zY X scope (xs ++ fr) C cells s H fp pins) [] σ6 B l:=t.pins_of λp hp=>(by cases hp)
   have I9:=Inv.turned (it:=D) (t':=l.toks) (h':=l.heap.update D (Obj.mapSeq (·.push y))) ad (λb o f e=>(Q2 l.heap _ (w1h f)).trans e) t4 E (.inr j) cB (λp hp=>uN p (by simpa using hp));exact⟨m',hm,i + 1,ys ++ [w],a6 ++ [y],k9,σ6,B,I9,T.keep _ _ _ t1 λb f o e=>(Q2 l.heap _ (QF (Z b f))).trans e,t2,uT,t4,Y.append (.cons r8 .nil),rq,w8⟩
theorem z9X{R:VK->St->It->Hp->Prop}(conv:∀Q σ J H1,R Q σ J H1->z1U J g tc te (λys H2=>∀p,H2 p=none->Q (.ref p) (upd H2 p (.lst ys))) (z74 σ ix (List.replicate xs.length none)) H1)(hc:X.calm=true)(S:CompScG X scope xs fr ix)(hi:PI X tg iter wi)(t:∀C cells s₀ H₀ ex pins,PG (zY X scope (xs ++ fr) C cells s₀ H₀ ex pins) tg g)
  (z:∀C cells s₀ H₀ ex pins,z6y (zY X scope (xs ++ fr) C cells s₀ H₀ ex pins) b9 tc) (B:∀C cells s₀ H₀ ex pins,PE (zY X scope (xs ++ fr) C cells s₀ H₀ ex pins) bq te)
  (hs:∀x,foldedSetIterable iter X.env x=pure x:=by intro _;rfl):PE X (.ListComp bq [⟨tg,iter,b9,0⟩] scope pos) (λσ H Q=>wi σ H λJ H1=>R Q σ J H1):=by
 intro pins s σ H Q I h;rw [eval_ListComp];have D:∀y∈scope.names,y.2= .free->∃c,X.env.cells.lookup y.1=some c:=λy l j=>I.ok.has y.1 (S.clo y l j)
 refine wpAny_comprehension_free (use:=none) rfl hs (kS D) S.kind S.names (thn (hi pins s σ H _ I h) λv s1 h1=>thn h1 λG s2 h2=> ?_);obtain⟨it,fp,tn,J,H2,rfl,i,T,d,f2,r⟩:=h2;refine w0z (z3r ?_);have u:tn 0 (pushCells ((s2.heap.push jm).push z07) scope.names):=T.keep _ _ _ d λb a o e=>w0A _ _ b o (wm _ (wm _ e))
 have loop:=z4i (iter:=iter) (pos:=pos) (R:=compPost (model X.prog X.w) X.A X.xe none (EP X pins σ Q) (.ref s2.heap.objs.size) (s2.heap.push jm).objs.size) hc S B z t i T d f2 (conv _ _ _ _ r)
  (λK ys E ⟨m,hn⟩ q n F a=>⟨m,hn,λh' f=>⟨.ref s2.heap.objs.size,_,a h' f,rfl,q _ n⟩⟩)
 exact codeAny_compStart_list loop (T.self _ _ _ _ _ u loop)
def z8Y(j:Nat)(wi:TI)(n:Nat)(ix:List Nat)(g:TG)(tc:TT)(te:TE):TS:=λD σ H=>wi σ H λJ H1=>z1U J g tc te (λys H2=>∀p,H2 p=none->D.nx (σ.set j (some (.ref p))) (upd H2 p (.lst ys))) (z74 σ ix (List.replicate n none)) H1
theorem z3n{R:Ends->St->It->Hp->Prop}(conv:∀D σ J H1,R D σ J H1->z1U J g tc te (λys H2=>∀p,H2 p=none->D.nx (σ.set j (some (.ref p))) (upd H2 p (.lst ys))) (z74 σ ix (List.replicate xs.length none)) H1)(hc:X.calm=true)(hN:X.N.Nodup)(G:X.N[j]? =some y)(n:Loc X.env.scope y)(S:CompScG X scope xs fr ix)(hi:PI X tg iter wi)(fL:∀C cells s₀ H₀ ex pins,PG (zY X scope (xs ++ fr) C cells s₀ H₀ ex pins) tg g)
  (dz:∀C cells s₀ H₀ ex pins,z6y (zY X scope (xs ++ fr) C cells s₀ H₀ ex pins) b9 tc) (dy:∀C cells s₀ H₀ ex pins,PE (zY X scope (xs ++ fr) C cells s₀ H₀ ex pins) bq te)
  (hs:∀x,foldedSetIterable iter X.env x=pure x:=by intro _;rfl)
  (K:swapsWith (.ListComp bq [⟨tg,iter,b9,0⟩] scope pos) (some (.Name y py)) bW.line X.env=pure true:=by rfl)
  (hf:X.fn y=true\/X.env.scope.names.lookup y=some .local:=by first | exact .inl rfl | exact .inr rfl | assumption):
  PS X (.Assign [.Name y py] (.ListComp bq [⟨tg,iter,b9,0⟩] scope pos) bW) (λD σ H=>wi σ H λJ H1=>R D σ J H1):=by
 intro pins s σ H D I h;rw [exec_Assign_Name_used _ _ _ _ K];refine wz (wpAny_standAt (wz ?_))
 show wpAny _ X.A (do let _<-comprehension (.ListComp bq [⟨tg,iter,b9,0⟩] scope pos) scope X.env _ (newList []) false (eval iter X.env) (some (assign (.Name y py) X.env))) _ _ s
 have Y:∀y∈scope.names,y.2= .free->∃c,X.env.cells.lookup y.1=some c:=λy n hk=>I.ok.has y.1 (S.clo y n hk)
 refine wz (QK (wpAny_comprehension_free (use:=some (assign (.Name y py) X.env)) (Q:=λ_ s'=>SP X pins D .next s') rfl hs (kS Y) S.kind S.names
  (thn (hi pins s σ H _ I h) λv s1 h1=>thn h1 λlF s2 h2=> ?_)) (λ_ s' hq=>wZ (wZ hq)) λ_ _ e=>e)
 obtain⟨it,fp,tn,J,H2,rfl,f,T,F,f2,P⟩:=h2;refine w0z (z3r ?_);have U:tn 0 (pushCells ((s2.heap.push jm).push z07) scope.names):=T.keep _ _ _ F λb i o e=>w0A _ _ b o (wm _ (wm _ e))
 have d:(s2.heap.push jm).objs.size=s2.heap.objs.size + 1:=Qg ..;have loop:=z4i (iter:=iter) (pos:=pos) (R:=compPost (model X.prog X.w) X.A X.xe (some (assign (.Name y py) X.env)) (λ_ s'=>SP X pins D .next s') (.ref s2.heap.objs.size) (s2.heap.push jm).objs.size) hc S dy dz fL f T F f2 (conv _ _ _ _ P)
  (λt ys u ⟨m,hn⟩ q nD l i=>by
   have I5:Inv X pins σ (upd u s2.heap.objs.size (.lst ys)) t:=i t.heap (Heap.SameBut.refl ..);have B:(s2.heap.push jm).objs.size≠X.env.locals:=by rw [d];exact QF (Q5 f.lt)
   have E:∀z c,X.env.cells.lookup z=some c->c≠(s2.heap.push jm).objs.size:=λz c e=>by
    obtain⟨v,w⟩:=f.cell z c e;rw [d];exact q5 (Q5 w.lt)
   show wpAny _ X.A (assign (.Name y py) X.env (.ref s2.heap.objs.size)) _ _ t
   refine wpAny_assign_Name (z5y (v:= .ref s2.heap.objs.size) I5 hN G n rfl (?_) hf);rintro O I6 ⟨a,sa,ha⟩;have L:(s2.heap.push jm).objs.size≠a:=by
    rcases ha with e | e
    ·rw [e];exact B
    ·exact(E _ _ e).symm
   refine⟨m,hn.sameBut sa L,λh6 r=> ?_⟩;have M:upd u s2.heap.objs.size (.lst ys) (s2.heap.push jm).objs.size=none:=by
    rw [zn (by rw [d];exact Nat.succ_ne_self _)];exact l
   have Z:=Inv.turned (it:=(s2.heap.push jm).objs.size) (t':=O.toks) (h':=h6) I6 (λb o i e=>(r.2 b i).trans e) M B (.inr (by rw [d];exact Nat.le_succ_of_le f.sz)) E (λp hp=>by
    rw [d];exact q5 (Q5 (wL (f.pin p hp).1)))
   exact⟨_,_,Z,q _ nD⟩)
 exact codeAny_compStart_list loop (T.self _ _ _ _ _ U loop)
theorem z6S(hc:X.calm=true)(e:X.N.Nodup)(a:X.N[j]? =some y)(b:Loc X.env.scope y)(S:CompScG X scope xs fr ix)(hi:PI X tg iter wi)(d:∀C cells s₀ H₀ ex pins,PG (zY X scope (xs ++ fr) C cells s₀ H₀ ex pins) tg g)
  (i:∀C cells s₀ H₀ ex pins,z6y (zY X scope (xs ++ fr) C cells s₀ H₀ ex pins) b9 tc) (l:∀C cells s₀ H₀ ex pins,PE (zY X scope (xs ++ fr) C cells s₀ H₀ ex pins) bq te)
  (hs:∀x,foldedSetIterable iter X.env x=pure x:=by intro _;rfl)
  (c:swapsWith (.ListComp bq [⟨tg,iter,b9,0⟩] scope pos) (some (.Name y py)) bW.line X.env=pure true:=by rfl)
  (f:X.fn y=true\/X.env.scope.names.lookup y=some .local:=by first | exact .inl rfl | exact .inr rfl | assumption):
  PS X (.Assign [.Name y py] (.ListComp bq [⟨tg,iter,b9,0⟩] scope pos) bW) (z8Y j wi xs.length ix g tc te):=z3n (λ_ _ _ _ h=>h) hc e a b S hi d i l hs c f
end
section
variable{px:Pos}
theorem CompSc.g(S:CompSc X scope x fr ix):CompScG X scope [x] fr ix:=⟨S.kind,S.names,S.uniq,S.clo,S.free,S.nd,S.len⟩
theorem CompSc.pg(S:CompSc X scope x fr ix)(C:Addr)(cells:List (Str×Addr))(s₀:Shared)(H₀:Hp)(ex:List Addr)(pins:List (Addr×Obj)):PG (zY X scope ([x] ++ fr) C cells s₀ H₀ ex pins) (.Name x px) (z1H 0):=by
 rcases S.xloc with h | h
 ·have a:(zY X scope ([x] ++ fr) C cells s₀ H₀ ex pins).env.scope.names.lookup x=some .local:=yq (env:=X.env) h;exact z0J (i:=0) S.nd rfl (.inl a) (.inr a)
 ·have a:(zY X scope ([x] ++ fr) C cells s₀ H₀ ex pins).env.scope.names.lookup x=some .cell:=yq (env:=X.env) h;exact z0J (i:=0) S.nd rfl (.inr a) (.inl (wN (Qd h)))
theorem z88{σ:St}{H1:Hp}(h:z0q J σ ix tc te Q H1):z1U J (z1H 0) tc te Q (z74 σ ix (List.replicate 1 none)) H1:=by
 obtain⟨W,w0,hs⟩:=h;refine⟨λσ'=>∃a,σ'=sub σ ix a,W,⟨none,rfl⟩,w0,?_⟩;rintro i m ys _ H ⟨a,rfl⟩ w;obtain⟨l,o⟩:=hs i m ys H w;exact⟨l,o.imp id λ⟨g,e,c,b,d,t⟩=>⟨g,e,c,b,d,λx H' y=>⟨⟨some x,rfl⟩,t x H' y⟩⟩⟩
def zep(wi:TI)(ix:List Nat)(tc:TT)(te:TE):TE:=λσ H Q=>wi σ H λJ H1=>z0q J σ ix tc te (λys H2=>∀p,H2 p=none->Q (.ref p) (upd H2 p (.lst ys))) H1
theorem yz(hc:X.calm=true)(S:CompSc X scope x fr ix)(hi:PI X (.Name x px) iter wi)
  (a:∀C cells s₀ H₀ ex pins,z6y (zY X scope (x :: fr) C cells s₀ H₀ ex pins) b9 tc) (b:∀C cells s₀ H₀ ex pins,PE (zY X scope (x :: fr) C cells s₀ H₀ ex pins) bq te)
  (hs:∀x,foldedSetIterable iter X.env x=pure x:=by intro _;rfl):PE X (.ListComp bq [⟨.Name x px,iter,b9,0⟩] scope pos) (zep wi ix tc te):=z9X (xs:= [x]) (R:=λQ σ J H1=>z0q J σ ix tc te (λys H2=>∀p,H2 p=none->Q (.ref p) (upd H2 p (.lst ys))) H1) (λ_ _ _ _ h=>z88 h) hc S.g hi S.pg a b hs
def zas(j:Nat)(wi:TI)(ix:List Nat)(tc:TT)(te:TE):TS:=λD σ H=>wi σ H λJ H1=>z0q J σ ix tc te (λys H2=>∀p,H2 p=none->D.nx (σ.set j (some (.ref p))) (upd H2 p (.lst ys))) H1
theorem jH(hc:X.calm=true)(d:X.N.Nodup)(a:X.N[j]? =some y)(b:Loc X.env.scope y)(S:CompSc X scope x fr ix)(hi:PI X (.Name x px) iter wi)
  (f:∀C cells s₀ H₀ ex pins,z6y (zY X scope (x :: fr) C cells s₀ H₀ ex pins) b9 tc) (i:∀C cells s₀ H₀ ex pins,PE (zY X scope (x :: fr) C cells s₀ H₀ ex pins) bq te)
  (hs:∀x,foldedSetIterable iter X.env x=pure x:=by intro _;rfl)
  (c:swapsWith (.ListComp bq [⟨.Name x px,iter,b9,0⟩] scope pos) (some (.Name y py)) bW.line X.env=pure true:=by rfl)
  (e:X.fn y=true\/X.env.scope.names.lookup y=some .local:=by first | exact .inl rfl | exact .inr rfl | assumption):
  PS X (.Assign [.Name y py] (.ListComp bq [⟨.Name x px,iter,b9,0⟩] scope pos) bW) (zas j wi ix tc te):=z3n (xs:= [x]) (R:=λD σ J H1=>z0q J σ ix tc te (λys H2=>∀p,H2 p=none->D.nx (σ.set j (some (.ref p))) (upd H2 p (.lst ys))) H1) (λ_ _ _ _ h=>z88 h) hc d a b S.g hi S.pg f i hs c e
end
end L2

namespace L2
open PySem PySem.Spec PyProof.Rows
noncomputable def z5T(sx:Scope)(NX:List Str)(scope:Scope)(x:Str)(fr:List Str)(ix:List Nat):Bool:=
 (scope.kind == .function) && scope.names.all (λy=>y.2 != .local || scope.names.lookup y.1 == some .local) && decide ((scope.names.map (·.1)).Nodup) &&
 (scope.names.lookup x == some .local || scope.names.lookup x == some .cell) && scope.names.all (λy=>y.2 != .free || (sx.names.lookup y.1 == some .cell || sx.names.lookup y.1 == some .free)) &&
 decide (fr.length=ix.length) && decide ((x :: fr).Nodup) && (fr.zip ix).all λp=>NX[p.2]? == some p.1 && scope.names.lookup p.1 == some .free
variable{X:Cx}{x:Str}{fr:List Str}{ix:List Nat}{scope:Scope}{NX:List Str}
theorem CompSc.of{sx:Scope}(hs:X.env.scope=sx)(l:X.N=NX)(h:z5T sx NX scope x fr ix=true):CompSc X scope x fr ix:=by
 simp only [z5T,qT,decide_eq_true_eq,Qi,qH,Bool.or_eq_true,bne_iff_ne,ne_eq]at h;obtain⟨⟨⟨⟨⟨⟨⟨h1,h2⟩,n⟩,j⟩,d⟩,c⟩,i⟩,f⟩:=h;refine⟨h1,λy b a=> ?_,n,j,λy b a=> ?_,λk y e=> ?_,i,c⟩
 ·rcases h2 y b with q | q
  ·exact absurd a q
  ·exact q
 ·show X.env.scope.names.lookup y.1=_\/X.env.scope.names.lookup y.1=_
  rw [hs];rcases d y b with q | q
  ·exact absurd a q
  ·exact q
 ·have a:k < ix.length:=by rw [<-c];exact(we.mp e).1
  have hz:(fr.zip ix)[k]? =some (y,ix[k]):=by
   rw [List.getElem?_zip_eq_some];exact⟨e,wa a⟩
  obtain⟨a1,a2⟩:=f _ (qD hz);exact⟨ix[k],wa a,by rw [l];exact a1,a2⟩
noncomputable def zcq(scope sx:Scope):Scope:=
 {scope with names:=scope.names.map λ(n,k)=>if(k == .free && sx.kind == .function && sx.names.lookup n == some .cell)then(n,.cell)else(n,k)}
theorem CompSc.of2{a sx:Scope}{b:List Str}{C:Addr}{cells:List (Str×Addr)}{s₀:Shared}{H₀:Hp}{ex:List Addr}{pins:List (Addr×Obj)}(hs:X.env.scope=sx)(c:b=NX)(h:z5T (zcq a sx) NX scope x fr ix=true):
  CompSc (zY X a b C cells s₀ H₀ ex pins) scope x fr ix:=by
 refine CompSc.of (sx:=zcq a sx) ?_ c h;subst hs
 rfl
variable{a:Addr}{xs:List V}{tc:TT}{te:TE}{Q:List V->Hp->Prop}{H:Hp}{σ:St}
theorem kF{K:W.Frag}(c:Nat->List V->Hp->Prop)(h0:c 0 [] H)(hl:∀i ys H,i<=xs.length->c i ys H->SqL K H a xs/\ys.length < sizeLine)
  (hs:∀(i:Nat) x ys H,xs[i]? =some x->c i ys H->tc (sub σ ix (some x)) H λb H2=>if b=true then te (sub σ ix (some x)) H2 λy d=>c (i + 1) (ys ++ [y]) d else c (i + 1) ys H2) (hd:∀ys H,c xs.length ys H->Q ys H):z0q (Itl K a) σ ix tc te Q H:=by
 refine⟨λi m ys H=>m=xs.length - i/\i<=xs.length/\c i ys H,⟨_,rfl,qY _,h0⟩,?_⟩;rintro i m ys H ⟨rfl,hi,p⟩;obtain⟨q,hz⟩:=hl i ys H hi p;refine⟨hz,?_⟩;by_cases ag:i < xs.length
 ·refine .inr ⟨⟨xs,xs[i],q,by simp [ag]⟩,λy d=>c (i + 1) (ys ++ [y]) d,λH2=>c (i + 1) ys H2,λy d z=>⟨xs.length - (i + 1),by lia,rfl,ag,z⟩,λH2 z=>⟨xs.length - (i + 1),by lia,rfl,ag,z⟩,λx H' y=> ?_⟩;obtain⟨e,y⟩:=y;subst e;exact hs i x ys _ (y xs q) p
 ·have e:i=xs.length:=by lia
  subst e;exact .inl ⟨⟨xs,q,ww _⟩,hd ys H p⟩
variable{lo:Int}{n:Nat}
theorem z7J(a:Nat->List V->Hp->Prop)(h0:a 0 [] H)(hl:∀i ys H,i<=n->a i ys H->ys.length < sizeLine)
  (hs:∀(i:Nat) ys H,i < n->a i ys H->tc (sub σ ix (some (.int (lo + i)))) H λb H2=>if b=true then te (sub σ ix (some (.int (lo + i)))) H2 λy c=>a (i + 1) (ys ++ [y]) c else a (i + 1) ys H2) (hd:∀ys H,a n ys H->Q ys H):z0q (Itr lo n) σ ix tc te Q H:=by
 refine⟨λi m ys H=>m=n - i/\i<=n/\a i ys H,⟨_,rfl,qY _,h0⟩,?_⟩;rintro i m ys H ⟨rfl,hi,p⟩;refine⟨hl i ys H hi p,?_⟩;by_cases ag:i < n
 ·refine .inr ⟨ag,λy c=>a (i + 1) (ys ++ [y]) c,λH2=>a (i + 1) ys H2,λy c z=>⟨n - (i + 1),by lia,rfl,ag,z⟩,λH2 z=>⟨n - (i + 1),by lia,rfl,ag,z⟩,λx H' y=> ?_⟩;obtain⟨e,y⟩:=y;subst e y;exact hs i ys _ ag p
 ·have e:i=n:=by lia
  subst e;exact .inl ⟨ww _,hd ys H p⟩
def jF{K:W.Frag}(b:Nat->List V->Hp->Prop)(h0:b 0 [] H)(hl:∀i ys H,i<=xs.length->b i ys H->SqL K H a xs/\ys.length < sizeLine)
  (hs:∀(i:Nat) x ys H,xs[i]? =some x->b i ys H->te (sub σ ix (some x)) H λy c=>b (i + 1) (ys ++ [y]) c) (hd:∀ys H,b xs.length ys H->Q ys H):z0q (Itl K a) σ ix z7X te Q H:=
 kF b h0 hl (λi x ys H e p=>z7U (A:=te (sub σ ix (some x)) H λy c=>b (i + 1) (ys ++ [y]) c) (B:=b (i + 1) ys H) (hs i x ys H e p)) hd
def z05(a:Nat->List V->Hp->Prop)(h0:a 0 [] H)(hl:∀i ys H,i<=n->a i ys H->ys.length < sizeLine)
  (hs:∀(i:Nat) ys H,i < n->a i ys H->te (sub σ ix (some (.int (lo + i)))) H λy b=>a (i + 1) (ys ++ [y]) b) (hd:∀ys H,a n ys H->Q ys H):z0q (Itr lo n) σ ix z7X te Q H:=
 z7J a h0 hl (λi ys H e p=>z7U (A:=te (sub σ ix (some (.int (lo + i)))) H λy b=>a (i + 1) (ys ++ [y]) b) (B:=a (i + 1) ys H) (hs i ys H e p)) hd
theorem z8q:∀(us:List Value) (ss:List Str),us.length=ss.length->(∀(j:Nat) (u:Value),us[j]? =some u->∃x t,ss[j]? =some x/\u=Value.str x t)->StrsAre us ss
 | [],[],_,_=> .nil
 | [],_ :: _,h,_=>by simp at h
 | _ :: _,[],h,_=>by simp at h
 | u :: us,s :: ss,h,a=>by
  obtain⟨x,t,d,f⟩:=a 0 u rfl;have b:s=x:=Option.some.inj d;subst b f;exact .cons _ _ (z8q us ss (by simpa using h) λj c e=>a (j + 1) c e)
def z5b:∀{us:List Value} {ss:List Str},StrsAre us ss->zP (ss.map V.str) us
 | _,_,.nil=> .nil
 | _,_,.cons _ t r=> .cons ⟨t,rfl⟩ (z5b r)
theorem z4P(hc:X.calm=true):yZ X (.builtin "sorted") (λxs H Q=>∃d kvs ss,xs= [.ref d]/\H d=some (.dK kvs)/\kvs.map (·.1)=ss.map Sum.inr/\kvs.length < 64/\
  ∀l f,H l=none->f.Perm ss->sortedS f=true->Q (.ref l) (upd H l (.lst (f.map V.str)))):=by
 intro pins s σ H xs us Q I r h;obtain⟨d,kvs,ss,rfl,hd,Z,nv,q⟩:=h;obtain⟨u,rfl,P⟩:=vals1 r;cases P;obtain⟨hz,L,vs,rel,m⟩:kvs.length<=sizeLine/\(d == sysModules)=false/\∃vs,KV kvs vs/\s.heap.DictOf (jC X.prog X.w) d vs:=I.hok d _ hd
 obtain⟨ep,bN⟩:=m.dictAt;have hlen:kvs.length=vs.length:=Paired.length rel;have J:vs.map (·.1)=ss.map Sum.inr:=(KV.keys rel).symm.trans Z;have uU:vs.length=ss.length:=by
  have:=Qa List.length J
  rwa [w9,w9]at this
 refine Calls.call_function_entry kind_sorted plain_sorted entry_sorted (args_sorted1 _) ?_;unfold Builtin.«sorted»;refine wz (m:=checkCount "sorted" 1 1 _) (wZ ?_);refine wz (PySem.W.kdu_collect (A:=X.A.in1) (PySem.W.kdl_dict (knd:=jC X.prog X.w) (kvs:=vs) (ep:=ep) L) (I.ok.hd hc) bN (by lia) λh' tk c R O=> ?_);obtain⟨lL,Y⟩:=O;have hl:c.toList.length=ss.length:=by rw [w0E,lL,uU]
 have p:StrsAre c.toList ss:=z8q _ _ hl λj u e=>by
  obtain⟨k,x,S,U⟩:=Y j u (by rw [<-Array.getElem?_toList];exact e);have E:j < ss.length:=by rw [<-hl];exact(we.mp e).1
  have D:(vs.map (·.1))[j]? =some k:=by rw [wO,S];rfl
  rw [J,wO,wa E]at D;have T:(Sum.inr ss[j]:Key)=k:=Option.some.inj D;subst T;rcases jN (show z4f (Sum.inr ss[j]) u=true from U)with⟨i,t,e3,_⟩ | ⟨y,t,e3,e4⟩
  ·cases e3
  ·cases e3;exact⟨_,t,wa E,e4⟩
 have M:c.toList.length < 64:=by lia
 have B:Inv X pins σ H {s with heap:=h',toks:=tk}:=I.kept R;refine wz (wpAny_newList ?_ (ja (by lia)));have n:(h'.push (seqObj "list" c.toList.toArray 0)).get? h'.objs.size=some (seqObj "list" c.toList.toArray 0):=qc _ rfl;refine wz (QP (wpAny_call_entry slot_list_sort ⟨_,n,rfl⟩ entry_list_sort (list_sort_treeK strKind_oneLt n p.keysOf (λF G rest e=>keyKind_strs (by rw [<-e];exact p)) M λz a1 a2=>⟨_,rfl,?_⟩) (args_list_sort _)));refine wZ ⟨_,rfl,?_⟩;obtain⟨f,b1,b2,K⟩:=sorted_out_str p a1 a2;obtain⟨e,N⟩:=sortedHeap_at (out:=(arrOf z).map (·.2)) n;refine⟨.ref h'.objs.size,upd H h'.objs.size (.lst (f.map V.str)),?_,rfl,q _ f B.fresh b2 K⟩;refine B.laid (a:=h'.objs.size) (t':=tk) (λb o e=> ?_) (ww _) ⟨?_,_,e,z5b b1,?_⟩
 ·have C:=wL e;rw [sortedHeap_old (q5 C) (by rw [Qg];exact Q5 C)];exact wm _ e
 ·rw [w9,b2.length_eq];exact ja (by lia)
 ·show(sortedHeap (h'.push (seqObj "list" c.toList.toArray 0)) h'.objs.size c.toList ((arrOf z).map (·.2))).get? h'.objs.size=some (seqObj "list" ((arrOf z).map (·.2)).toList.toArray e)
  rw [Array.toArray_toList];exact N
def leS(a b:Str):Prop:=¬b.cps.toList < a.cps.toList
def z9a{a b c:Str}(h1:leS a b)(h2:leS b c):leS a c:=List.le_trans (α:=Nat) h1 h2
theorem zaW{a b:Str}(h:(!ltCps b.cps.toList a.cps.toList)=true):leS a b:=by
 rw [ltCps_eq,Bool.not_eq_true',decide_eq_false_iff_not]at h;exact h
theorem z5o:∀(p:Str) (l:List Str),risingS p l=true->(p :: l).Pairwise leS
 | p,[],_=>List.pairwise_singleton _ _
 | p,x :: r,h=>by
  rw [show risingS p (x :: r)=(!ltCps x.cps.toList p.cps.toList && risingS x r)from rfl,qT]at h;have a:=z5o x r h.2;refine List.pairwise_cons.mpr ⟨λy hy=> ?_,a⟩;rcases wE.mp hy with e | hy
  ·rw [e];exact zaW h.1
  ·exact z9a (zaW h.1) (List.rel_of_pairwise_cons a hy)
def z8U:∀{l:List Str},sortedS l=true->l.Pairwise leS
 | [],_=> .nil
 | x :: r,h=>z5o x r h
theorem yY{α:Type} [DecidableEq α]:∀{l us:List α},l.Nodup->(∀x∈l,x∈us)->l.length<=us.length
 | [],_,_,_=>qY _
 | x :: l,us,hn,hs=>by
  obtain⟨h1,h2⟩:=w0e.mp hn;have b:x∈us:=hs x qE;have c:=yY (l:=l) (us:=us.erase x) h2 λy a=>(List.mem_erase_of_ne (λe=>h1 (by rw [<-e];exact a))).mpr (hs y (wY _ a))
  rw [List.length_erase_of_mem b]at c;have:0 < us.length:=List.length_pos_of_mem b;rw [wJ]
  lia
def z1E{i:Nat}{v:V}{Q:St->Hp->Prop}(h:Q (σ.set i (some v)) H):z1H i v σ H Q:=h
def z2D{t u:TS}{D:Ends}(h:t {D with nx:=u D} σ H):z2z t u D σ H:=h
variable{t:TA}{es:List Expr}
section
variable{K:W.Frag}
theorem ki(h:X.K=K):IxR X (zcW K):=by subst h;exact z8L
theorem z0j(h:X.K=K):IxR X (zcX K):=by subst h;exact zb6
theorem z4C(h:X.K=K):OpR X (compareOp .In) (rIn K false):=by subst h;exact jO
theorem z4M(h:X.K=K):OpR X (compareOp .NotIn) (rIn K true):=by subst h;exact yH
theorem z50(h:X.K=K):yZ X (.builtin "len") (λxs H Q=>∃p ys,xs= [.ref p]/\(SqL K H p ys\/SqT K H p ys)/\Q (.int ys.length) H):=by subst h;exact z2y
theorem z2g(h:X.K=K):yZ X (.type "list") (λxs H Q=>∃p ys,xs= [.ref p]/\(SqL K H p ys\/SqT K H p ys)/\∀l,H l=none->Q (.ref l) (upd H l (.lst ys))):=by subst h;exact jY
theorem z60(h:X.K=K):yZ X (.builtin "isinstance") (λxs H Q=>∃x n t b,xs= [x,.ty n]/\TyOf K H x t/\PySem.W.kitOne K t (.type n)=some b/\Q (.bl b) H):=by subst h;exact j6
theorem z9f(h:X.K=K):MtM X "list.index" (zb4 K):=by subst h;exact z0z
theorem z6A{tg l:Expr}{tl:TE}(h:X.K=K)(hl:PE X l tl):PI X tg l (zcr K tl):=by subst h;exact jb hl
theorem zdd{o e:Expr}{to:TE}{name:Str}{apos af:Pos}{T id:String}{r:V->List V->Hp->VK->Prop}(h:X.K=K)(a:PlainAttrs T)(slot:Slot T name id)(j:typeOf (.builtin id)=pure (.type "method_descriptor"))(hm:MtR X id r)(d:PE X o to)(ha:PA X (e :: es) t)
  (b:attributeBase o name X.env (eval o X.env)=eval o X.env:=by rfl)
  (c:((backTo af (starEach (e :: es) X.env)).all (λx=> !x.1) && (backToKw af (keywordEach [] X.env)).all (λx=>x.1.isSome)
   && decide ((e :: es).length + ([]:List Keyword).length + (if([]:List Keyword).isEmpty then 0 else 1) < 30))=true:=by rfl)
  (i:(apos.endLine == af.line)=true:=by rfl) (hs:starEach (e :: es) X.env=(false,eval e X.env) :: starEach es X.env:=by rfl) (f:(backTo af (starEach es X.env)).any (·.1)=false:=by rfl):
  PE X (.Call (.Attribute o name apos) (e :: es) [] af) (tBM K T r to t):=by
 subst h;exact z1v a slot j hm d ha b c i hs f
end
def zo{a b c}(ha:PE X (.Constant a b c) te)(hr:PA X es t):PA X (.Constant a b c :: es) (z1K te t):=zO ha hr
def zf{a b}(ha:PE X (.Name a b) te)(hr:PA X es t):PA X (.Name a b :: es) (z1K te t):=zO ha hr
def zH{a b c}(ha:PE X (.Tuple a b c) te)(hr:PA X es t):PA X (.Tuple a b c :: es) (z1K te t):=zO ha hr
def yo{a b c d}(ha:PE X (.BinOp a b c d) te)(hr:PA X es t):PA X (.BinOp a b c d :: es) (z1K te t):=zO ha hr
def zl{a b c}(ha:PE X (.Subscript a b c) te)(hr:PA X es t):PA X (.Subscript a b c :: es) (z1K te t):=zO ha hr
def zT{a b c d}(ha:PE X (.Call a b c d) te)(hr:PA X es t):PA X (.Call a b c d :: es) (z1K te t):=zO ha hr
def jL{a b}(ha:PE X (.List a b) te)(hr:PA X es t):PA X (.List a b :: es) (z1K te t):=zO ha hr
def zbD{a b c}(ha:PE X (.UnaryOp a b c) te)(hr:PA X es t):PA X (.UnaryOp a b c :: es) (z1K te t):=zO ha hr
def zcn{a b c d}(ha:PE X (.Compare a b c d) te)(hr:PA X es t):PA X (.Compare a b c d :: es) (z1K te t):=zO ha hr
def z1g{a b c d}(ha:PE X (.ListComp a b c d) te)(hr:PA X es t):PA X (.ListComp a b c d :: es) (z1K te t):=zO ha hr
theorem z3G{a b:Int}{k1 k2}{c p2 d:Pos}(hc:zdR a b):PE X (.BinOp (.Constant (.int a) k1 c) .Pow (.Constant (.int b) k2 p2) d) (tC (.int (a ^ b.toNat))):=by
 intro pins s σ H Q I h;exact(zr zcM zb zb) pins s σ H Q I ⟨a,b,rfl,rfl,hc,h⟩
end L2

namespace L2
open PySem PySem.Spec PyProof.Rows
def tL:List (W.Frag->TS)->W.Frag->TS
 | [],_=>z44
 | a :: b,K=>z2z (a K) (tL b K)
structure NmF(a b:W.Frag->TS):Prop where
 e:∀K,a K=b K
structure ClF(a:W.Frag->TS)(bs:List (W.Frag->TS)):Prop where
 e:∀K,a K=tL bs K
variable{D:Ends}{H:Hp}
section
variable{a a' b b1 b2:W.Frag->TS}{bs bh df:List (W.Frag->TS)}{c:W.Frag->TT}{wi:W.Frag->TI}{g:W.Frag->TG}
theorem zdf:ClF (λ_=>z44) []:=⟨λ_=>rfl⟩
theorem zbJ(h0:NmF a a')(h2:ClF b bs):ClF (λK=>z2z (a K) (b K)) (a' :: bs):=⟨λK=>by show z2z (a K) (b K)=z2z (a' K) (tL bs K);rw [h0.e,h2.e]⟩
theorem zdA(h0:NmF a a'):ClF a [a']:=⟨λK=>by rw [h0.e];rfl⟩
theorem ze1(h1:ClF b1 bh)(h2:ClF b2 df)(h:NmF (λK=>z7k (c K) (tL bh K) (tL df K)) a'):NmF (λK=>z7k (c K) (b1 K) (b2 K)) a':=⟨λK=>by rw [h1.e,h2.e];exact h.e K⟩
theorem zd3(h1:ClF b1 bh)(h2:ClF b2 df)(h:NmF (λK=>zam (c K) (tL bh K) (tL df K)) a'):NmF (λK=>zam (c K) (b1 K) (b2 K)) a':=⟨λK=>by rw [h1.e,h2.e];exact h.e K⟩
theorem zaC(h1:ClF b1 bh)(h:NmF (λK=>z1r (c K) (tL bh K)) a'):NmF (λK=>z1r (c K) (b1 K)) a':=⟨λK=>by rw [h1.e];exact h.e K⟩
theorem zcO(h1:ClF b1 bh)(h:NmF (λK=>z9y (wi K) (g K) (tL bh K)) a'):NmF (λK=>z9y (wi K) (g K) (b1 K)) a':=⟨λK=>by rw [h1.e];exact h.e K⟩
theorem jo{K:W.Frag}{σ:St}{t:W.Frag->TS}(e:ClF t bs)(h:tL bs K D σ H):∀a,K=a->t a D σ H:=by
 rintro _ rfl;rw [e.e];exact h
end
def tL2:List (W.Frag->Addr->TS)->W.Frag->Addr->TS
 | [],_,_=>z44
 | a :: b,K,A=>z2z (a K A) (tL2 b K A)
structure NmF2(a b:W.Frag->Addr->TS):Prop where
 e:∀K A,a K A=b K A
structure ClF2(a:W.Frag->Addr->TS)(bs:List (W.Frag->Addr->TS)):Prop where
 e:∀K A,a K A=tL2 bs K A
section
variable{a a' b b1 b2:W.Frag->Addr->TS}{bs bh df:List (W.Frag->Addr->TS)}{c:W.Frag->Addr->TT}{wi:W.Frag->Addr->TI}{g:W.Frag->Addr->TG}
theorem zbZ:ClF2 (λ_ _=>z44) []:=⟨λ_ _=>rfl⟩
theorem zan(h0:NmF2 a a')(h2:ClF2 b bs):ClF2 (λK A=>z2z (a K A) (b K A)) (a' :: bs):=⟨λK A=>by show z2z (a K A) (b K A)=z2z (a' K A) (tL2 bs K A);rw [h0.e,h2.e]⟩
theorem zbP(h0:NmF2 a a'):ClF2 a [a']:=⟨λK A=>by rw [h0.e];rfl⟩
theorem zcU(h1:ClF2 b1 bh)(h2:ClF2 b2 df)(h:NmF2 (λK A=>z7k (c K A) (tL2 bh K A) (tL2 df K A)) a'):NmF2 (λK A=>z7k (c K A) (b1 K A) (b2 K A)) a':=⟨λK A=>by rw [h1.e,h2.e];exact h.e K A⟩
theorem zbf(h1:ClF2 b1 bh)(h2:ClF2 b2 df)(h:NmF2 (λK A=>zam (c K A) (tL2 bh K A) (tL2 df K A)) a'):NmF2 (λK A=>zam (c K A) (b1 K A) (b2 K A)) a':=⟨λK A=>by rw [h1.e,h2.e];exact h.e K A⟩
theorem z9v(h1:ClF2 b1 bh)(h:NmF2 (λK A=>z1r (c K A) (tL2 bh K A)) a'):NmF2 (λK A=>z1r (c K A) (b1 K A)) a':=⟨λK A=>by rw [h1.e];exact h.e K A⟩
theorem z0a{K:W.Frag}{A:Addr}{σ:St}{t:W.Frag->Addr->TS}(e:ClF2 t bs)(h:tL2 bs K A D σ H):∀a,K=a->∀b,A=b->t a b D σ H:=by
 rintro _ rfl _ rfl;rw [e.e];exact h
end
def tL3:List (W.Frag->Addr->Addr->TS)->W.Frag->Addr->Addr->TS
 | [],_,_,_=>z44
 | a :: b,K,A,B=>z2z (a K A B) (tL3 b K A B)
structure NmF3(a b:W.Frag->Addr->Addr->TS):Prop where
 e:∀K A B,a K A B=b K A B
structure ClF3(a:W.Frag->Addr->Addr->TS)(bs:List (W.Frag->Addr->Addr->TS)):Prop where
 e:∀K A B,a K A B=tL3 bs K A B
section
variable{a a' b b1 b2:W.Frag->Addr->Addr->TS}{bs bh df:List (W.Frag->Addr->Addr->TS)}{c:W.Frag->Addr->Addr->TT}{wi:W.Frag->Addr->Addr->TI}{g:W.Frag->Addr->Addr->TG}
theorem zbX:ClF3 (λ_ _ _=>z44) []:=⟨λ_ _ _=>rfl⟩
theorem z9W(h0:NmF3 a a')(h2:ClF3 b bs):ClF3 (λK A B=>z2z (a K A B) (b K A B)) (a' :: bs):=⟨λK A B=>by show z2z (a K A B) (b K A B)=z2z (a' K A B) (tL3 bs K A B);rw [h0.e,h2.e]⟩
theorem zbt(h0:NmF3 a a'):ClF3 a [a']:=⟨λK A B=>by rw [h0.e];rfl⟩
theorem zcT(h1:ClF3 b1 bh)(h2:ClF3 b2 df)(h:NmF3 (λK A B=>z7k (c K A B) (tL3 bh K A B) (tL3 df K A B)) a'):NmF3 (λK A B=>z7k (c K A B) (b1 K A B) (b2 K A B)) a':=⟨λK A B=>by rw [h1.e,h2.e];exact h.e K A B⟩
theorem z93(h1:ClF3 b1 bh)(h:NmF3 (λK A B=>z1r (c K A B) (tL3 bh K A B)) a'):NmF3 (λK A B=>z1r (c K A B) (b1 K A B)) a':=⟨λK A B=>by rw [h1.e];exact h.e K A B⟩
theorem zbz(h1:ClF3 b1 bh)(h:NmF3 (λK A B=>z9y (wi K A B) (g K A B) (tL3 bh K A B)) a'):NmF3 (λK A B=>z9y (wi K A B) (g K A B) (b1 K A B)) a':=⟨λK A B=>by rw [h1.e];exact h.e K A B⟩
theorem z5G{K:W.Frag}{A B:Addr}{σ:St}{t:W.Frag->Addr->Addr->TS}(e:ClF3 t bs)(h:tL3 bs K A B D σ H):∀b,K=b->∀c,A=c->∀a,B=a->t b c a D σ H:=by
 rintro _ rfl _ rfl _ rfl;rw [e.e];exact h
end
end L2

namespace L2
open PySem PySem.Spec PyProof.Rows
variable{X:Cx}{tb:TS}{pos:Pos}{N ps:List Str}{sc:Scope}{x:Str}{e:Expr}{op:CmpOp}{r:R2}{sp:Sp}{body:List Stmt}
section
variable{a b:Expr}{ta tb:TE}
theorem ixT(ha:PE X a ta)(c:PE X b tb)(hs:z5O b:=by exact λ_ _=>rfl):PE X (.Subscript a b pos) (tOp (zcX X.K) ta tb):=yK zb6 ha c hs
theorem ixL(ha:PE X a ta)(c:PE X b tb)(hs:z5O b:=by exact λ_ _=>rfl):PE X (.Subscript a b pos) (tOp (zcW X.K) ta tb):=yK z8L ha c hs
theorem seT(i:Nat)(S:FnScope N ps sc){te:TE}{pos':Pos}(c:PE X e te)(b:X.N=N:=by rfl)(hi:X.N[i]? =some x:=by rfl)(a:Loc X.env.scope x:=by exact QV rfl)(hs:swapsWith e (some (.Name x pos')) pos.line X.env=pure false:=by rfl)(d:X.fn x=true\/X.env.scope.names.lookup x=some .local:=by first | exact .inl rfl | exact .inr rfl | assumption):
  PS X (.Assign [.Name x pos'] e pos) (zcE te (z1H i)):=kD (b ▸ S.nd) hi a c hs d
theorem gnM(i:Nat)(S:FnScope N ps sc)(b:X.N=N:=by rfl)(hi:X.N[i]? =some x:=by rfl)(a:Loc X.env.scope x:=by exact QV rfl)(c:X.fn x=true\/X.env.scope.names.lookup x=some .local:=by first | exact .inl rfl | exact .inr rfl | assumption):PG X (.Name x pos) (z1H i):=z0J (b ▸ S.nd) hi a c
theorem cmE(c:OpR X (compareOp op) r)(ha:PE X a ta)(d:PE X b tb)(hm:behindInMarks op b=false:=by exact z9E _):PE X (.Compare a [op] [b] pos) (tOp r ta tb):=z3N c ha d hm
theorem cmT(c:OpR X (compareOp op) r)(ha:PE X a ta)(d:PE X b tb)(hm:behindInMarks op b=false:=by exact z9E _):PT X (.Compare a [op] [b] pos) (zcp (tOp r ta tb)):=jR c ha d hm
variable{es:List Expr}{t:TA}{p:Pos}
theorem zV{k:Nat}(C:Kn X.prog X.w X.K X.mg X.base k x ps sp)(hr:Room k X.A)(ha:PA X (e :: es) t)(a:Gl X x:=by rfl)
  (d:(x == ("__debug__":Str))=false:=by decide) (b:starEach (e :: es) X.env=(false,eval e X.env) :: starEach es X.env:=by rfl) (c:(backTo pos (starEach es X.env)).any (·.1)=false:=by rfl):
  PE X (.Call (.Name x p) (e :: es) [] pos) (zay sp [] E0 t):=z6H C hr a ha d b c
theorem leN(hm:X.mg "len"=none)(ha:PA X (e :: es) t)(a:Gl X "len":=by rfl)(b:starEach (e :: es) X.env=(false,eval e X.env) :: starEach es X.env:=by rfl)(c:(backTo pos (starEach es X.env)).any (·.1)=false:=by rfl):
  PE X (.Call (.Name "len" p) (e :: es) [] pos) (tCB (λxs H Q=>∃p ys,xs= [.ref p]/\(SqL X.K H p ys\/SqT X.K H p ys)/\Q (.int ys.length) H) t):=zQ z2y a hm PySem.boot_len ha (by decide) (by decide) b c
theorem foR{tg iter:Expr}{wi:TI}{g:TG}{tb:TS}(hi:PI X tg iter wi)(a:PG X tg g)(b:PSs X body tb)(hp:PassesOwn (model X.prog X.w) X.A X.env X.xe:=by exact PassesOwn.never)(hc:X.calm=true:=by rfl)
  (hs:∀x,foldedSetIterable iter X.env x=pure x:=by intro _;rfl):PS X (.For tg iter body [] pos) (z9y wi g tb):=zdi hp hc hi a b hs
theorem z6r{c:Expr}{tc:TT}{tb:TS}(hc:PT X c tc)(a:PSs X body tb)(hp:PassesOwn (model X.prog X.w) X.A X.env X.xe:=by exact PassesOwn.never):PS X (.While c body [] pos) (z1r tc tb):=zaX hp hc a
theorem apP{o:Expr}{to:TE}{apos af:Pos}(a:PE X o to)(ha:PA X (e :: es) t)(c:attributeBase o "append" X.env (eval o X.env)=eval o X.env:=by rfl)
  (b:((backTo af (starEach (e :: es) X.env)).all (λx=> !x.1) && (backToKw af (keywordEach [] X.env)).all (λx=>x.1.isSome)
   && decide ((e :: es).length + ([]:List Keyword).length + (if([]:List Keyword).isEmpty then 0 else 1) < 30))=true:=by rfl)
  (f:(apos.endLine == af.line)=true:=by rfl) (hs:starEach (e :: es) X.env=(false,eval e X.env) :: starEach es X.env:=by rfl) (d:(backTo af (starEach es X.env)).any (·.1)=false:=by rfl):
  PE X (.Call (.Attribute o "append" apos) (e :: es) [] af) (tBM X.K "list" z89 to t):=z1v qj PySem.F.slot_list_append PySem.F.type_list_append z8Z a ha c b f hs d
end
section
variable{P:Program}{w:World}{K:W.Frag}{mg:Str->Option Value}{base:Heap}
def BodyOk(P:Program)(w:World)(K:W.Frag)(mg:Str->Option Value)(base:Heap)(N:List Str)(qual:Str)(st:Stmt)(k:Nat)(f:Addr)(vs:List V)(H:Hp)(Q:VK)(E:XK):Prop:=
 ∀(ac:Value) (A:Around) (outer:List Env) (s:Shared),Room k (A.deeper (envOfC qual (zm st) s.heap.objs.size f ac))->
  ∃t,PSs (z38 CX0 P w K mg base N qual (zm st) f ac A outer s H E).nox (ym st) t/\t {nx:=λ_ H'=>Q .non H',rt:=Q} (start N vs) H
def Fun.okB{qual:Str}{st:Stmt}{f:Addr}{fd:FuncData}{k:Nat}(F:Fun K x qual st f fd)(S:FnScope N ps (zm st))(len:∀vs H Q E,sp vs H Q E->vs.length=ps.length)
  (a:∀vs H Q E,sp vs H Q E->BodyOk P w K mg base N qual st k f vs H Q E):FnOk P w K mg base CX0 (k + 1) f fd ps sp:=
 F.ok S len λac A outer s H vs Q E hr h=>a vs H Q E h ac A outer s hr
end
theorem v0(a:X.N[0]? =some x:=by rfl)(b:Vis X.env.scope x:=by first | exact QV rfl | exact QH (QV rfl) | exact QH (QH rfl))(hd:(x == ("__debug__":Str))=false:=by decide)(c:(x == ("__classdict__":Str))=false:=by decide):PE X (.Name x pos) (z6k 0):=z2p a b hd c
theorem v1(a:X.N[1]? =some x:=by rfl)(b:Vis X.env.scope x:=by first | exact QV rfl | exact QH (QV rfl) | exact QH (QH rfl))(hd:(x == ("__debug__":Str))=false:=by decide)(c:(x == ("__classdict__":Str))=false:=by decide):PE X (.Name x pos) (z6k 1):=z2p a b hd c
theorem v2(a:X.N[2]? =some x:=by rfl)(b:Vis X.env.scope x:=by first | exact QV rfl | exact QH (QV rfl) | exact QH (QH rfl))(hd:(x == ("__debug__":Str))=false:=by decide)(c:(x == ("__classdict__":Str))=false:=by decide):PE X (.Name x pos) (z6k 2):=z2p a b hd c
theorem v3(a:X.N[3]? =some x:=by rfl)(b:Vis X.env.scope x:=by first | exact QV rfl | exact QH (QV rfl) | exact QH (QH rfl))(hd:(x == ("__debug__":Str))=false:=by decide)(c:(x == ("__classdict__":Str))=false:=by decide):PE X (.Name x pos) (z6k 3):=z2p a b hd c
theorem v4(a:X.N[4]? =some x:=by rfl)(b:Vis X.env.scope x:=by first | exact QV rfl | exact QH (QV rfl) | exact QH (QH rfl))(hd:(x == ("__debug__":Str))=false:=by decide)(c:(x == ("__classdict__":Str))=false:=by decide):PE X (.Name x pos) (z6k 4):=z2p a b hd c
theorem v5(a:X.N[5]? =some x:=by rfl)(b:Vis X.env.scope x:=by first | exact QV rfl | exact QH (QV rfl) | exact QH (QH rfl))(hd:(x == ("__debug__":Str))=false:=by decide)(c:(x == ("__classdict__":Str))=false:=by decide):PE X (.Name x pos) (z6k 5):=z2p a b hd c
def zq{n:Nat}(h:Nat.ble n 1000000=true):n<=sizeLine:=ja (Nat.le_of_ble_eq_true h)
end L2

namespace Cn
open PySem L2
inductive Side where
 | nm (s:Str) | nu (i:Int)
noncomputable def Side.v:Side->V
 | .nm s=> .str s
 | .nu i=> .int i
def Side.ok(hs:List Str):Side->Prop
 | .nm s=>s∈hs
 | .nu _=>True
noncomputable def Side.cols:Side->List Str
 | .nm s=> [s]
 | .nu _=> []
inductive Cond where
 | less (a b:Side) | same (a b:Side) | no (c:Cond) | an (c d:Cond) | or (c d:Cond)
namespace Cond
noncomputable def size:Cond->Nat
 | .less _ _=>1
 | .same _ _=>1
 | .no c=>c.size + 1
 | .an c d=>c.size + d.size + 1
 | .or c d=>c.size + d.size + 1
noncomputable def leaf:Cond->Bool
 | .less _ _=>true
 | .same _ _=>true
 | _=>false
def ok(hs:List Str):Cond->Prop
 | .less a b=>a.ok hs/\b.ok hs
 | .same a b=>a.ok hs/\b.ok hs
 | .no c=>c.ok hs
 | .an c d=>c.ok hs/\d.ok hs
 | .or c d=>c.ok hs/\d.ok hs
noncomputable def cols:Cond->List Str
 | .less a b=>a.cols ++ b.cols
 | .same a b=>a.cols ++ b.cols
 | .no c=>c.cols
 | .an c d=>c.cols ++ d.cols
 | .or c d=>c.cols ++ d.cols
theorem size_pos(c:Cond):1<=c.size:=by
 cases c <;> simp only [size] <;> lia
theorem z0h(a:Side):a.cols.length<=1:=by
 cases a <;> simp [Side.cols]
theorem cols_le:∀c:Cond,c.cols.length<=2 * c.size
 | .less a b=>by
  have h1:=z0h a;have h2:=z0h b;simp only [cols,size,wb];lia
 | .same a b=>by
  have h1:=z0h a;have h2:=z0h b;simp only [cols,size,wb];lia
 | .no c=>by
  have:=cols_le c;simp only [cols,size];lia
 | .an c d=>by
  have h1:=cols_le c;have h2:=cols_le d;simp only [cols,size,wb];lia
 | .or c d=>by
  have h1:=cols_le c;have h2:=cols_le d;simp only [cols,size,wb];lia
end Cond
noncomputable def num(hs:List Str)(rs:List Int):Side->Int
 | .nm s=>rs.getD (hs.idxOf s) 0
 | .nu i=>i
noncomputable def ev(hs:List Str)(rs:List Int):Cond->Bool
 | .less a b=>decide (num hs rs a < num hs rs b)
 | .same a b=>decide (num hs rs a=num hs rs b)
 | .no c=> !ev hs rs c
 | .an c d=>ev hs rs c && ev hs rs d
 | .or c d=>ev hs rs c || ev hs rs d
def zI(H:Hp):Cond->V->Prop
 | .less a b,v=>∃p,v= .ref p/\H p=some (.tup [.str "less",a.v,b.v])
 | .same a b,v=>∃p,v= .ref p/\H p=some (.tup [.str "same",a.v,b.v])
 | .no c,v=>∃p x,v= .ref p/\H p=some (.tup [.str "not",x])/\zI H c x
 | .an c d,v=>∃p x y,v= .ref p/\H p=some (.tup [.str "and",x,y])/\zI H c x/\zI H d y
 | .or c d,v=>∃p x y,v= .ref p/\H p=some (.tup [.str "or",x,y])/\zI H c x/\zI H d y
variable{H:Hp}
theorem zI.mono{H':Hp}(t:∀b xs,H b=some (.tup xs)->H' b=some (.tup xs)):∀{c:Cond} {v:V},zI H c v->zI H' c v
 | .less _ _,_,h=>by
  obtain⟨p,rfl,h⟩:=h;exact⟨p,rfl,t _ _ h⟩
 | .same _ _,_,h=>by
  obtain⟨p,rfl,h⟩:=h;exact⟨p,rfl,t _ _ h⟩
 | .no _,_,h=>by
  obtain⟨p,x,rfl,h,h1⟩:=h;exact⟨p,x,rfl,t _ _ h,h1.mono t⟩
 | .an _ _,_,h=>by
  obtain⟨p,x,y,rfl,h,h1,h2⟩:=h;exact⟨p,x,y,rfl,t _ _ h,h1.mono t,h2.mono t⟩
 | .or _ _,_,h=>by
  obtain⟨p,x,y,rfl,h,h1,h2⟩:=h;exact⟨p,x,y,rfl,t _ _ h,h1.mono t,h2.mono t⟩
variable{c:Cond}
theorem zI.same{H':Hp}{v:V}(e:zz H H')(h:zI H c v):zI H' c v:=h.mono λb xs q=>e b _ q
theorem zI.ref{v:V}(h:zI H c v):∃p xs,v= .ref p/\H p=some (.tup xs):=by
 cases c with
 | less a b=>obtain⟨p,rfl,h⟩:=h;exact⟨p,_,rfl,h⟩
 | same a b=>obtain⟨p,rfl,h⟩:=h;exact⟨p,_,rfl,h⟩
 | no c=>obtain⟨p,x,rfl,h,_⟩:=h;exact⟨p,_,rfl,h⟩
 | an c d=>obtain⟨p,x,y,rfl,h,_⟩:=h;exact⟨p,_,rfl,h⟩
 | or c d=>obtain⟨p,x,y,rfl,h,_⟩:=h;exact⟨p,_,rfl,h⟩
theorem zI.head{v:V}(h:zI H c v):∃(p:Addr) (x:Str) (xs:List V),v= .ref p/\H p=some (.tup (.str x :: xs))/\inV (.str x) [.str "less",.str "same"]=c.leaf:=by
 cases c with
 | less a b=>obtain⟨p,rfl,h⟩:=h;exact⟨p,_,_,rfl,h,(by show inV _ _=_;first | exact(by decide +kernel:inV (.str "less") [.str "less",.str "same"]=true) | exact(by decide +kernel:inV (.str "same") [.str "less",.str "same"]=true) | exact(by decide +kernel:inV (.str "not") [.str "less",.str "same"]=false) | exact(by decide +kernel:inV (.str "and") [.str "less",.str "same"]=false) | exact(by decide +kernel:inV (.str "or") [.str "less",.str "same"]=false))⟩
 | same a b=>obtain⟨p,rfl,h⟩:=h;exact⟨p,_,_,rfl,h,(by show inV _ _=_;first | exact(by decide +kernel:inV (.str "less") [.str "less",.str "same"]=true) | exact(by decide +kernel:inV (.str "same") [.str "less",.str "same"]=true) | exact(by decide +kernel:inV (.str "not") [.str "less",.str "same"]=false) | exact(by decide +kernel:inV (.str "and") [.str "less",.str "same"]=false) | exact(by decide +kernel:inV (.str "or") [.str "less",.str "same"]=false))⟩
 | no c=>obtain⟨p,x,rfl,h,_⟩:=h;exact⟨p,_,_,rfl,h,(by show inV _ _=_;first | exact(by decide +kernel:inV (.str "less") [.str "less",.str "same"]=true) | exact(by decide +kernel:inV (.str "same") [.str "less",.str "same"]=true) | exact(by decide +kernel:inV (.str "not") [.str "less",.str "same"]=false) | exact(by decide +kernel:inV (.str "and") [.str "less",.str "same"]=false) | exact(by decide +kernel:inV (.str "or") [.str "less",.str "same"]=false))⟩
 | an c d=>obtain⟨p,x,y,rfl,h,_⟩:=h;exact⟨p,_,_,rfl,h,(by show inV _ _=_;first | exact(by decide +kernel:inV (.str "less") [.str "less",.str "same"]=true) | exact(by decide +kernel:inV (.str "same") [.str "less",.str "same"]=true) | exact(by decide +kernel:inV (.str "not") [.str "less",.str "same"]=false) | exact(by decide +kernel:inV (.str "and") [.str "less",.str "same"]=false) | exact(by decide +kernel:inV (.str "or") [.str "less",.str "same"]=false))⟩
 | or c d=>obtain⟨p,x,y,rfl,h,_⟩:=h;exact⟨p,_,_,rfl,h,(by show inV _ _=_;first | exact(by decide +kernel:inV (.str "less") [.str "less",.str "same"]=true) | exact(by decide +kernel:inV (.str "same") [.str "less",.str "same"]=true) | exact(by decide +kernel:inV (.str "not") [.str "less",.str "same"]=false) | exact(by decide +kernel:inV (.str "and") [.str "less",.str "same"]=false) | exact(by decide +kernel:inV (.str "or") [.str "less",.str "same"]=false))⟩
noncomputable def wgt:Cond->Nat
 | .an _ d=>d.size + 1
 | .or _ d=>d.size + 1
 | _=>1
noncomputable def wt(fs:List (V×Cond)):Nat:=(fs.map λf=>wgt f.2).sum
end Cn

namespace Rw
open PySem L2
noncomputable abbrev refs(rs:List (Addr×List Int)):List V:=rs.map λr=>V.ref r.1
def RowsAt(H:Hp)(p:Addr)(rs:List (Addr×List Int)):Prop:=H p=some (.lst (refs rs))/\∀r∈rs,r.1≠p/\H r.1=some (.lst (r.2.map V.int))
variable{H:Hp}{p:Addr}{rs:List (Addr×List Int)}
theorem RowsAt.same{H':Hp}(h:RowsAt H p rs)(e:zz H H'):RowsAt H' p rs:=⟨e _ _ h.1,λr m=>⟨(h.2 r m).1,e _ _ (h.2 r m).2⟩⟩
def RowsAt.kp{H':Hp}{l:Addr}(h:RowsAt H p rs)(e:Kp l H H')(np:p≠l)(a:∀r∈rs,r.1≠l):RowsAt H' p rs:=⟨e _ _ np h.1,λr m=>⟨(h.2 r m).1,e _ _ (a r m) (h.2 r m).2⟩⟩
theorem kC(h:H p=some (.lst [])):RowsAt H p []:=⟨h,λ_ z=>by cases z⟩
theorem RowsAt.push{q:Addr}{x:List Int}(h:RowsAt H p rs)(a:q≠p)(hq:H q=some (.lst (x.map V.int))):
  RowsAt (upd H p (.lst ((refs rs) ++ [V.ref q]))) p (rs ++ [(q,x)]):=by
 refine⟨by rw [zj];simp [refs],λr m=> ?_⟩;rcases wx.mp m with m | m
 ·exact⟨(h.2 r m).1,by rw [zn (h.2 r m).1];exact(h.2 r m).2⟩
 ·rw [wu.mp m];exact⟨a,by rw [zn a];exact hq⟩
theorem RowsAt.len:(refs rs).length=rs.length:=w9 _
variable{i:Nat}
theorem z09(h:i < rs.length):(refs rs)[i]? =some (V.ref rs[i].1):=by
 rw [wO,wa h]
 rfl
theorem int_at{xs:List Int}(h:i < xs.length):(xs.map V.int)[i]? =some (.int (xs.getD i 0)):=by
 rw [wO,wa h,wo,wa h]
 rfl
theorem z68(h:i < rs.length):atI (refs rs) (0 + (i:Int))=some (V.ref rs[i].1):=by
 rw [w0D];exact zX (z09 h)
end Rw

namespace L2
open PySem PySem.Spec PyProof.Rows
section
variable{X:Cx}
def zcY(K:W.Frag):R2:=λx y H Q=>∃a b xs,x= .ref a/\y= .ref b/\SqL K H a xs/\SqL K H b []/\Q (.bl (!xs.isEmpty)) H
theorem z2G(p:X.A.units + 1 < cLine):OpR X (compareOp .NotEq) (zcY X.K):=by
 intro pins s σ H x y v u Q I o f h;have d:X.A.units < cLine:=by lia
 obtain⟨a,b,xs,rfl,rfl,ha,i,q⟩:=h;cases o;cases f;obtain⟨a6,r,pl,hz⟩:=I.list ha;obtain⟨n,r2,c,_⟩:=I.list i;have l:n= []:=r2.zero;subst l;cases r with
 | nil=>exact SeqAt.RcNeAt.lists (e:=λ_=>true) pl.isList c.isList rfl d (λj h1 _=>absurd h1 (by simp)) _ _ _ _ ⟨.bl false,H,I,by simp [RelV],q⟩
 | cons r1 r2=>exact SeqAt.RcNeAt.lists_lengths pl.isList c.isList (by simp) d _ _ _ _ ⟨.bl true,H,I,rfl,q⟩
end
end L2

namespace L2
open PySem PySem.Spec PyProof.Rows PySem.W
def kOk(n:Nat)(k:Nat->Int){α:Type}(Q:α->Prop):KasT α->Prop
 | .ret a=>Q a
 | .ask i j f=>i < n/\j < n/\kOk n k Q (f (decide (k i < k j)))
def z18{n:Nat}{k:Nat->Int}{α β:Type}{Q:β->Prop}{f:α->KasT β}:∀{t:KasT α},kOk n k (λa=>kOk n k Q (f a)) t->kOk n k Q (t.bind f)
 | .ret _,h=>h
 | .ask _ _ _,h=>⟨h.1,h.2.1,z18 h.2.2⟩
def ye{n:Nat}{k:Nat->Int}{α:Type}{Q b:α->Prop}(hq:∀a,Q a->b a):∀{t:KasT α},kOk n k Q t->kOk n k b t
 | .ret _,h=>hq _ h
 | .ask _ _ _,h=>⟨h.1,h.2.1,ye hq h.2.2⟩
theorem zap{n:Nat}{k:Nat->Int}{b:Nat->Nat->(Bool->Shared->Prop)->Shared->Prop}{s:Shared}(hc:∀i j C,i < n->j < n->C (decide (k i < k j)) s->b i j C s){α:Type}{Q:α->Shared->Prop}:
  ∀{t:KasT α},kOk n k (λa=>Q a s) t->t.kasWp b Q s
 | .ret _,h=>h
 | .ask _ _ _,h=>hc _ _ _ h.1 h.2.1 (zap hc h.2.2)
variable{n i j:Nat}
theorem z3g{k:Nat->Int}{α:Type}{Q:α->Prop}{a b:KasT α}(hi:i < n)(d:j < n)(h1:k i < k j->kOk n k Q a)(h2:¬k i < k j->kOk n k Q b):
  kOk n k Q (.ask i j λc=>if c=true then a else b):=by
 refine⟨hi,d,?_⟩;by_cases c:k i < k j
 ·show kOk n k Q (if decide (k i < k j)=true then a else b)
  rw [wU (by simpa using c)];exact h1 c
 ·show kOk n k Q (if decide (k i < k j)=true then a else b)
  rw [wM (by simpa using c)];exact h2 c
def Rk(k:Nat->Int)(x y:Nat):Prop:=k x < k y\/(k x=k y/\x < y)
theorem Rk.trans{k:Nat->Int}{x y z:Nat}(h:Rk k x y)(h':Rk k y z):Rk k x z:=by unfold Rk at *;lia
noncomputable def at'(p:Array Nat)(i:Nat):Nat:=(p[i]?).getD 0
theorem getD_at(p:Array Nat)(i:Nat):p.getD i 0=at' p i:=by
 unfold at';simp [Array.getD_eq_getD_getElem?]
structure Ar(n m:Nat)(p:Array Nat):Prop where
 sz:p.size=n
 mn:m<=n
 id:∀i,m<=i->i < n->at' p i=i
 lo:∀i,i < m->at' p i < m
 pm:p.Perm (List.range n).toArray
variable{p:Array Nat}
theorem Ar.lt{m:Nat}(h:Ar n m p)(hi:i < n):at' p i < n:=by
 by_cases e:i < m
 ·exact wT (h.lo i e) h.mn
 ·rw [h.id i (by lia) hi];exact hi
theorem Ar.up{m c:Nat}(h:Ar n m p)(h1:m<=c)(h2:c<=n):Ar n c p:=by
 refine⟨h.sz,h2,λi a b=>h.id i (by lia) b,λi a=> ?_,h.pm⟩;by_cases e:i < m
 ·have:=h.lo i e;lia
 ·rw [h.id i (by lia) (by lia)];exact a
def Up(k:Nat->Int)(m:Nat)(p:Array Nat):Prop:=∀i j,i < j->j < m->Rk k (at' p i) (at' p j)
def Dn(k:Nat->Int)(m:Nat)(p:Array Nat):Prop:=∀i j,i < j->j < m->Rk k (at' p j) (at' p i)
theorem z0c(a:j<=p.size)(x:Nat):at' (kas_rev p i j) x=if i<=x/\x < j then at' p (i + j - 1 - x)else at' p x:=by
 unfold at' kas_rev;rw [getElem?_mirror_all a];split <;> rfl
theorem Ar.rev{m:Nat}(h:Ar n m p)(c:j<=m):Ar n m (kas_rev p i j):=by
 have hs:j<=p.size:=by rw [h.sz];exact wV c h.mn
 refine⟨by show(mirror _ _ _ _).size=n;rw [mirror_size,h.sz],h.mn,λx a b=> ?_,λx a=> ?_,(mirror_perm _ _ _ _).trans h.pm⟩
 ·rw [z0c hs,wM (by lia),h.id x a b]
 ·rw [z0c hs];split
  ·exact h.lo _ (by lia)
  ·exact h.lo _ a
theorem Dn.rev{k:Nat->Int}{m:Nat}(A:Ar n m p)(h:Dn k m p):Up k m (kas_rev p 0 m):=by
 have hs:m<=p.size:=by rw [A.sz];exact A.mn
 intro i j b a;rw [z0c hs,z0c hs,wU (by lia),wU (by lia)];exact h _ _ (by lia) (by lia)
theorem zaz{n:Nat}{k:Nat->Int}{p:Array Nat}:∀(f m:Nat),1<=m->m + f=n->Ar n m p->Up k m p->
  kOk n k (λb=>m<=b/\b<=n/\Ar n b p/\Up k b p) (kas_asc p f m)
 | 0,m,_,o,A,U=>⟨ww _,by lia,A,U⟩
 | f + 1,m,h1,o,A,U=>by
  show kOk n k _ (KasT.ask _ _ _)
  rw [getD_at,getD_at];have l:=A.id m (ww _) (by lia);have r:=A.lo (m - 1) (by lia);refine z3g (by rw [l];lia) (by lia) (λc=> ?_) λc=> ?_
  ·skip
   exact⟨ww _,by lia,A,U⟩
  ·skip
   refine ye (λa h=>⟨by lia,h.2⟩) (zaz f (m + 1) (by lia) (by lia) (A.up (by lia) (by lia)) ?_);have last:Rk k (at' p (m - 1)) (at' p m):=by unfold Rk;lia
   intro i j d q;by_cases e:j < m
   ·exact U i j d e
   ·obtain rfl:j=m:=by lia
    by_cases e2:i=j - 1
    ·rw [e2];exact last
    ·exact(U i (j - 1) (by lia) (by lia)).trans last
structure Fal(k:Nat->Int)(m q:Nat)(p:Array Nat):Prop where
 qm:q + 1<=m
 fr:∀i j,i < j->j < m - (q + 1)->Rk k (at' p j) (at' p i)
 st:∀i j,i < m - (q + 1)->m - (q + 1)<=j->j < m->k (at' p j) < k (at' p i)
 eq:∀i,m - (q + 1)<=i->i < m->k (at' p i)=k (at' p (m - 1))
 or:∀i j,i < j->j < m->m - (q + 1)<=i->at' p i < at' p j
theorem Fal.dn{k:Nat->Int}{m q:Nat}(A:Ar n m p)(h:Fal k m q p):Dn k m (kas_rev p (m - (q + 1)) m)/\∀x,x < m->k (at' p (m - 1))<=k (at' (kas_rev p (m - (q + 1)) m) x):=by
 have hs:m<=p.size:=by rw [A.sz];exact A.mn
 have hq:=h.qm;have f:∀x,x < m->k (at' p (m - 1))<=k (at' p x):=λx d=>by
  by_cases e:x < m - (q + 1)
  ·have:=h.st x (m - 1) e (by lia) (by lia);lia
  ·rw [h.eq x (by lia) d];exact Int.le_refl _
 refine⟨λi j o l=> ?_,λx d=> ?_⟩
 ·rw [z0c hs,z0c hs];by_cases ei:m - (q + 1)<=i
  ·rw [wU (by lia),wU (by lia)];have a:=h.eq (m - (q + 1) + m - 1 - i) (by lia) (by lia);have b:=h.eq (m - (q + 1) + m - 1 - j) (by lia) (by lia);have c:=h.or (m - (q + 1) + m - 1 - j) (m - (q + 1) + m - 1 - i) (by lia) (by lia) (by lia);unfold Rk;lia
  ·rw [wM (show¬(m - (q + 1)<=i/\i < m) by lia)];split
   ·exact QV (h.st _ _ (by lia) (by lia) (by lia))
   ·exact h.fr _ _ (by lia) (by lia)
 ·rw [z0c hs];split
  ·exact f _ (by lia)
  ·exact f _ d
theorem Fal.dn0{k:Nat->Int}{m:Nat}(h:Fal k m 0 p):Dn k m p/\∀x,x < m->k (at' p (m - 1))<=k (at' p x):=by
 have hq:=h.qm;refine⟨λi j b a=> ?_,λx c=> ?_⟩
 ·by_cases e:j < m - 1
  ·exact h.fr i j b e
  ·exact QV (h.st i j (by lia) (by lia) a)
 ·by_cases e:x < m - 1
  ·have:=h.st x (m - 1) e (by lia) (by lia);lia
  ·obtain rfl:x=m - 1:=by lia
   exact Int.le_refl _
theorem Fal.step{k:Nat->Int}{m:Nat}(hm:m < n)(h:Dn k m p){y:Int}(e:∀x,x < m->y<=k (at' p x))(hl:k (at' p m) < y):Fal k (m + 1) 0 p:=by
 refine⟨by lia,λi j l f=>h i j l (by lia),λi j hi f d=> ?_,λi a b=> ?_,λi j a b c=>by lia⟩
 ·obtain rfl:j=m:=by lia
  have:=e i (by lia)
  lia
 ·obtain rfl:i=m:=by lia
  simp
theorem z3H{n:Nat}{k:Nat->Int}:∀(f:Nat) (p:Array Nat) (m q:Nat),m + f=n->Ar n m p->Fal k m q p->
  kOk n k (λr=>m<=r.2.1/\r.2.1<=n/\Ar n r.2.1 r.1/\Fal k r.2.1 r.2.2 r.1) (kas_desc f p m q)
 | 0,p,m,q,x,A,F=>⟨ww _,by show m<=n;lia,A,F⟩
 | f + 1,p,m,q,x,A,F=>by
  show kOk n k _ (KasT.ask _ _ _)
  rw [getD_at,getD_at];have hq:=F.qm;have o:=A.id m (ww _) (by lia);have y:=A.lo (m - 1) (by lia);refine z3g (by rw [o];lia) (by lia) (λc=> ?_) λc=> ?_
  ·skip
   have hs:m<=p.size:=by rw [A.sz];lia
   by_cases q0:q > 0
   ·rw [wU q0];have u:Ar n m (kas_rev p (m - (q + 1)) m):=A.rev (ww _);have w:at' (kas_rev p (m - (q + 1)) m) m=at' p m:=by rw [z0c hs,wM (by lia)]
    exact ye (λa h=>⟨by lia,h.2⟩) (z3H f _ (m + 1) 0 (by lia) (u.up (by lia) (by lia)) (Fal.step (n:=n) (by lia) (F.dn A).1 (F.dn A).2 (by rw [w];exact c)))
   ·rw [wM q0];obtain rfl:q=0:=by lia
    exact ye (λa h=>⟨by lia,h.2⟩) (z3H f _ (m + 1) 0 (by lia) (A.up (by lia) (by lia)) (Fal.step (n:=n) (by lia) F.dn0.1 F.dn0.2 c))
  ·refine z3g (by lia) (by rw [o];lia) (λd=> ?_) λd=> ?_
   ·exact⟨ww _,by show m<=n;lia,A,F⟩
   ·have t:k (at' p m)=k (at' p (m - 1)):=by lia
    refine ye (λa h=>⟨by lia,h.2⟩) (z3H f _ (m + 1) (q + 1) (by lia) (A.up (by lia) (by lia)) ⟨by lia,λi j l s=> ?_,λi j hi s hm=> ?_,λi a b=> ?_,λi j l s hi=> ?_⟩)
    ·exact F.fr i j l (by lia)
    ·by_cases e:j < m
     ·exact F.st i j (by lia) (by lia) e
     ·obtain rfl:j=m:=by lia
      rw [t];exact F.st i (j - 1) (by lia) (by lia) (by lia)
    ·rw [Nat.add_sub_cancel];by_cases e:i < m
     ·rw [F.eq i (by lia) e,t]
     ·obtain rfl:i=m:=by lia
      rfl
    ·by_cases e:j < m
     ·exact F.or i j l e (by lia)
     ·obtain rfl:j=m:=by lia
      rw [o];exact A.lo i (by lia)
theorem z6L{m:Nat}{k:Nat->Int}(h1:1<=m)(A:Ar n m p)(D:Dn k m p):
  kOk n k (λr=>1<=r.1/\r.1<=n/\Ar n r.1 r.2/\Up k r.1 r.2) (kas_tail3 m n p):=by
 refine z18 (ye (λa h=> ?_) (zaz (n - m) m h1 (by have:=A.mn;lia) (A.rev (ww _)) (D.rev A)));exact⟨by show 1<=a;lia,h.2.1,h.2.2.1,h.2.2.2⟩
theorem z3s{m:Nat}{k:Nat->Int}(h1:m + 1<=n)(A:Ar n (m + 1) p)(F:Fal k (m + 1) 0 p):
  kOk n k (λr=>1<=r.1/\r.1<=n/\Ar n r.1 r.2/\Up k r.1 r.2) (kas_descPart m n p):=by
 refine z18 (ye (λa h=> ?_) (z3H (n - (m + 1)) p (m + 1) 0 (by lia) A F));obtain⟨b1,b2,b,d⟩:=h;by_cases q0:a.2.2 > 0
 ·rw [wU q0];exact z6L (by lia) (b.rev (ww _)) (d.dn b).1
 ·rw [wM q0];obtain⟨p',c,q'⟩:=a;obtain rfl:q'=0:=by simpa using q0
  exact z6L (by have:m + 1<=c:=b1;show 1<=c;lia) b d.dn0.1
theorem z8e{n:Nat}{k:Nat->Int}{p:Array Nat}:∀(f m:Nat),1<=m->m + f=n->Ar n m p->Up k m p->
  kOk n k (λb=>m<=b/\b<=n/\Ar n b p/\Up k b p/\(b < n->k (at' p b) < k (at' p (b - 1)))) (kas_asc p f m)
 | 0,m,_,o,A,U=>⟨ww _,by lia,A,U,λh=>by lia⟩
 | f + 1,m,h1,o,A,U=>by
  show kOk n k _ (KasT.ask _ _ _)
  rw [getD_at,getD_at];have l:=A.id m (ww _) (by lia);have r:=A.lo (m - 1) (by lia);refine z3g (by rw [l];lia) (by lia) (λc=> ?_) λc=> ?_
  ·skip
   exact⟨ww _,by lia,A,U,λ_=>c⟩
  ·skip
   refine ye (λa h=>⟨by lia,h.2⟩) (z8e f (m + 1) (by lia) (by lia) (A.up (by lia) (by lia)) ?_);have last:Rk k (at' p (m - 1)) (at' p m):=by unfold Rk;lia
   intro i j d q;by_cases e:j < m
   ·exact U i j d e
   ·obtain rfl:j=m:=by lia
    by_cases e2:i=j - 1
    ·rw [e2];exact last
    ·exact(U i (j - 1) (by lia) (by lia)).trans last
theorem zat{k:Nat->Int}(hn:1<=n)(A:Ar n 1 p):kOk n k (λr=>1<=r.1/\r.1<=n/\Ar n r.1 r.2/\Up k r.1 r.2) (kas_count n p):=by
 refine z18 (ye (λm h=> ?_) (z8e (n - 1) 1 (ww _) (by lia) A (λi j a b=>by lia)));obtain⟨b1,b2,d,f,t⟩:=h;by_cases e:m=n
 ·rw [wU (by simpa using e)];exact⟨b1,b2,d,f⟩
 rw [wM (by simpa using e)];have hs:m<=p.size:=by rw [A.sz];exact b2
 have l:=t (by lia);by_cases e1:m > 1
 ·rw [wU e1]
  show kOk n k _ (KasT.ask _ _ _)
  rw [getD_at,getD_at];refine z3g (d.lt (by lia)) (d.lt (by lia)) (λc=> ?_) λc=> ?_
  ·exact⟨b1,b2,d,f⟩
  ·have o:Ar n m (kas_rev p 0 m):=d.rev (ww _);have s:∀i,i < m->k (at' p i)=k (at' p (m - 1)):=λi hi=>by
    have h0:k (at' p 0)<=k (at' p i):=by
     by_cases e:i=0
     ·rw [e];exact Int.le_refl _
     ·have:=f 0 i (by lia) hi;unfold Rk at this;lia
    have h1:k (at' p i)<=k (at' p (m - 1)):=by
     by_cases e:i=m - 1
     ·rw [<-e];exact Int.le_refl _
     ·have:=f i (m - 1) (by lia) (by lia);unfold Rk at this;lia
    lia
   have D:Dn k m (kas_rev p 0 m):=λi j u w=>by
    rw [z0c hs,z0c hs,wU (by lia),wU (by lia)];exact f _ _ (by lia) (by lia)
   refine z3s (by lia) (o.up (by lia) (by lia)) (Fal.step (n:=n) (y:=k (at' p (m - 1))) (by lia) D (λx q=> ?_) ?_)
   ·rw [z0c hs,wU (by lia)];have:=s (0 + m - 1 - x) (by lia)
    lia
   ·rw [z0c hs,wM (by lia)];exact l
 ·rw [wM e1];obtain rfl:m=1:=by lia
  refine z3s (by lia) (d.up (by lia) (by lia)) (Fal.step (n:=n) (y:=k (at' p 0)) (by lia) (λi j a b=>by lia) (λx q=> ?_) l);obtain rfl:x=0:=by lia
  exact Int.le_refl _
theorem z4j{n m:Nat}{k:Nat->Int}{p:Array Nat}(hm:m < n)(A:Ar n m p)(U:Up k m p):∀(f l r:Nat),l<=r->r<=m->r - l<=f->
  (∀i,i < l->k (at' p i)<=k (at' p m))->(∀i,r<=i->i < m->k (at' p m) < k (at' p i))->
  kOk n k (λd=>d<=m/\(∀i,i < d->k (at' p i)<=k (at' p m))/\∀i,d<=i->i < m->k (at' p m) < k (at' p i)) (kas_place p m f l r)
 | 0,l,r,h1,h2,h,a,b=>⟨by lia,a,λi x y=>b i (by lia) y⟩
 | f + 1,l,r,h1,h2,h,a,b=>by
  unfold kas_place;by_cases e:l≥r
  ·rw [wU e];exact⟨by lia,a,λi x y=>b i (by lia) y⟩
  rw [wM e,getD_at,getD_at];refine z3g (A.lt hm) (A.lt (by lia)) (λc=> ?_) λc=> ?_
  ·refine z4j hm A U f l ((l + r) / 2) (by lia) (by lia) (by lia) a λi x y=> ?_
   by_cases e2:i=(l + r) / 2
   ·rw [e2];exact c
   ·have:=U ((l + r) / 2) i (by lia) y;unfold Rk at this;lia
  ·refine z4j hm A U f ((l + r) / 2 + 1) r (by lia) (by lia) (by lia) (λi x=> ?_) b;by_cases e2:i=(l + r) / 2
   ·rw [e2];lia
   ·have:=U i ((l + r) / 2) (by lia) (by lia);unfold Rk at this;lia
theorem z92{m d:Nat}(hm:m < p.size)(hd:d<=m)(x:Nat):at' (bubble p m d) x=if x=m - d then at' p m else if m - d < x/\x<=m then at' p (x - 1)else at' p x:=by
 unfold at';rw [getElem?_bubble hm d hd];split
 ·rfl
 ·split <;> rfl
theorem zb9{n:Nat}{k:Nat->Int}:∀(f:Nat) (p:Array Nat) (m:Nat),m + f=n->Ar n m p->Up k m p->
  kOk n k (λp'=>Ar n n p'/\Up k n p') (kas_bin f p m)
 | 0,p,m,h,A,U=>by
  obtain rfl:m=n:=by lia
  exact⟨A,U⟩
 | f + 1,p,m,h,A,U=>by
  have hs:m < p.size:=by rw [A.sz];lia
  have e:=A.id m (ww _) (by lia);refine z18 (ye (λl hl=> ?_) (z4j (by lia) A U m 0 m (by lia) (ww _) (by lia) (λi x=>by lia) (λi x y=>by lia)));obtain⟨u,r,o⟩:=hl;have c:∀x,at' (bubble p m (m - l)) x=if x=l then at' p m else if l < x/\x<=m then at' p (x - 1)else at' p x:=λx=>by
   rw [z92 hs (by lia),show m - (m - l)=l by lia]
  refine zb9 f _ (m + 1) (by lia) ⟨by rw [bubble_size,A.sz],by lia,λi a b=> ?_,λi a=> ?_,(bubble_perm _ _ _).trans A.pm⟩ λi j s t=> ?_
  ·rw [c,wM (by lia),wM (by lia)];exact A.id i (by lia) b
  ·rw [c];split
   ·lia
   ·split
    ·have:=A.lo (i - 1) (by lia);lia
    ·have:=A.lo i (by lia);lia
  ·rw [c,c];have q:∀x,x < m->at' p x < at' p m:=λx d=>by rw [e];exact A.lo x d
   by_cases e1:i=l
   ·rw [wU e1,wM (by lia),wU (by lia)];exact QV (o (j - 1) (by lia) (by lia))
   ·rw [wM e1];by_cases e2:l < i/\i<=m
    ·rw [wU e2,wM (by lia),wU (by lia)];exact U _ _ (by lia) (by lia)
    ·rw [wM e2];by_cases e3:j=l
     ·rw [wU e3];have a:=r i (by lia);have b:=q i (by lia);unfold Rk;lia
     ·rw [wM e3];by_cases e4:l < j/\j<=m
      ·rw [wU e4];exact U _ _ (by lia) (by lia)
      ·rw [wM e4];exact U _ _ (by lia) (by lia)
theorem Ar.all:Ar n 0 (List.toArray (List.range n)):=by
 refine⟨by simp,qY _,λi _ h=> ?_,λi h=>by lia,Array.Perm.refl _⟩;unfold at';simp [h]
theorem zcd(hn:1<=n)(k:Nat->Int):kOk n k (λp=>p.toList.Perm (List.range n)/\p.toList.Pairwise (Rk k)) (kas_sort n):=by
 have fin:∀p:Array Nat,Ar n n p->Up k n p->p.toList.Perm (List.range n)/\p.toList.Pairwise (Rk k):=λp A U=>by
  refine⟨by have:=A.pm;rw [Array.perm_iff_toList_perm]at this;simpa using this,?_⟩;rw [QQ];intro i j hi l d;have c:j < n:=by rw [<-A.sz];simpa using l
  have:=U i j d c;unfold at' at this;have o:i < p.size:=by rw [A.sz];lia
  have f:j < p.size:=by rw [A.sz];lia
  simpa [o,f]using this
 refine z18 (ye (λr h=> ?_) (zat hn (Ar.all.up (by lia) hn)));obtain⟨b1,b2,a,b⟩:=h;by_cases e:r.1 < n
 ·rw [wU e];have hm:max r.1 1=r.1:=by lia
  rw [hm];exact ye (λp h=>fin p h.1 h.2) (zb9 (n - r.1) r.2 r.1 (by lia) a b)
 ·rw [wM e];have q:r.1=n:=by lia
  rw [q]at a b;exact fin r.2 a b
end L2

namespace L2
open PySem PySem.Spec PyProof.Rows PySem.W
variable{ss:List Str}
theorem z7n:∀{us:List Value},zP (ss.map V.str) us->StrsAre us ss:=by
 induction ss with
 | nil=>intro us r;rw [qO]at r;cases r;exact .nil
 | cons n ns a=>
  intro us r;rw [wR]at r;cases r with
  | cons r1 r2=>
   obtain⟨t,rfl⟩:=r1;exact .cons _ _ (a r2)
variable{X:Cx}
theorem z2Z(hc:X.calm=true):yZ X (.builtin "sum") (λxs H Q=>∃(a:Addr) (ns:List Int),xs= [.ref a]/\SqL X.K H a (ns.map V.int)/\Q (.int ns.sum) H):=by
 intro pins s σ H xs us Q I r h;obtain⟨a,ns,rfl,hq,q⟩:=h;obtain⟨u,rfl,i⟩:=vals1 r;cases i;obtain⟨a6,r',pl,hz⟩:=I.list hq;have hi:IntsAre a6.toArray.toList ns:=intsAre_of r';obtain⟨xs,b⟩:=hi.allInts.items;have f:s.heap.IsList a (intItems xs):=b ▸ pl.isList;refine sum_intListG (I.ok.hd hc) f λh' tk t' e=> ?_
 have d:ns=xs.toList.map (·.1):=by
  rw [<-nums_intItems,<-b];exact(show numsOf a6.toArray.toList=ns from hi.numsOf).symm
 have c:preSum (numAt xs) xs.size=ns.sum:=by
  rw [preSum_eq,Qo (by simp),d]
 rw [c];exact⟨.int ns.sum,H,I.kept e,⟨_,rfl⟩,q⟩
def z9I(x:V)(z:Str):Prop:=(∃i:Int,x= .int i/\i.natAbs.log2 < 1920/\z=toString i)\/x= .str z
theorem z23:yZ X (.type "str") (λxs H Q=>∃x z,xs= [x]/\z9I x z/\Q (.str z) H):=by
 intro pins s σ H xs us Q I r h;obtain⟨x,z,rfl,h,q⟩:=h;rcases h with⟨i,rfl,hi,rfl⟩ | rfl
 ·exact z5H pins s σ H _ us Q I r ⟨i,rfl,hi,q⟩
 ·obtain⟨u,rfl,t,rfl⟩:=vals1 r;exact PySem.P.str_of_str ⟨.str z,H,I,⟨_,rfl⟩,q⟩
def rJoin(K:W.Frag):V->List V->Hp->VK->Prop:=λx vs H Q=>∃z l ys,x= .str z/\vs= [.ref l]/\SqL K H l (ys.map V.str)/\(ys.map (·.length)).sum + ys.length * z.length<=16777216/\Q (.str (Str.join z ys)) H
theorem z8u:MtM X "str.join" (rJoin X.K):=by
 intro pins s σ H x vs v us Q I c a h;obtain⟨z,l,ys,rfl,rfl,hq,hz,q⟩:=h;obtain⟨t,rfl⟩:=c;obtain⟨u,rfl,b⟩:=a.one;cases b;obtain⟨a6,r,pl,hsz⟩:=I.list hq;refine join_list (items:=a6.toArray) pl.isList (z7n r) hz λt' k=> ?_
 have e:Txt.join z ys=Str.join z ys:=StrLaws.glued_eq_join _ _;rw [e];exact⟨.str _,H,I.tok _,⟨_,rfl⟩,q⟩
noncomputable def eqL(xs ys:List V):Bool:=decide (xs.length=ys.length) && (List.range xs.length).all λj=>eqV (xs.getD j .non) (ys.getD j .non)
def zbq(K:W.Frag):R2:=λx y H Q=>∃a b xs ys,x= .ref a/\y= .ref b/\SqL K H a xs/\SqL K H b ys/\xs.all yM=true/\ys.all yM=true/\Q (.bl (eqL xs ys)) H
theorem z9n(L:X.A.units + 1 < cLine):OpR X (compareOp .Eq) (zbq X.K):=by
 intro pins s σ H x y v u Q I G l h;have i:X.A.units < cLine:=by lia
 obtain⟨a,b,xs,ys,rfl,rfl,ha,n,t,J,q⟩:=h;cases G;cases l;obtain⟨a6,r,pl,hz⟩:=I.list ha;obtain⟨C,r2,f,_⟩:=I.list n;have l1:=r.length;have l2:=r2.length;by_cases hl:xs.length=ys.length
 ·refine SeqAt.eq_listAt (e:=λj=>eqV (xs.getD j .non) (ys.getD j .non)) pl.isList f.isList (by rw [wy,wy];lia) i (λj h1 h2=> ?_) ?_
  ·have o:j < xs.length:=by rw [wy]at h1;lia
   have D:j < ys.length:=by lia
   have d:xs[j]? =some xs[j]:=wa o;have c:ys[j]? =some ys[j]:=wa D;obtain⟨w1,z,w⟩:=r.get d;obtain⟨w2,p,F⟩:=r2.get c;have E:a6.toArray[j]=w1:=by rw [QZ];exact(we.mp z).2
   have B:C.toArray[j]=w2:=by rw [QZ];exact(we.mp p).2
   rw [E,B,wo,wo,d,c];exact z5K w F (qH.mp t _ (qD d)) (qH.mp J _ (qD c))
  ·refine⟨.bl (eqL xs ys),H,I,?_,q⟩
   show Value.bool _=Value.bool _
   rw [eqL,wN hl,w0Y,wy,<-l1]
 ·refine SeqAt.eq_list_lengthsAt pl.isList f.isList ?_ i ⟨.bl (eqL xs ys),H,I,?_,q⟩
  ·rw [wy,wy,bne_iff_ne,<-l1,<-l2];exact hl
  ·show Value.bool false=Value.bool _
   rw [eqL,wI hl,w11]
theorem z6O{a:List Str}:eqL (ss.map V.str) (a.map V.str)=decide (ss=a):=by
 unfold eqL;rw [w9,w9];by_cases e:ss=a
 ·subst e;rw [wN rfl,wN rfl,w0Y,qH];intro j b;rw [Qf]at b;rw [wo,wO,wa b]
  show(ss[j] == ss[j])=true
  exact QX _
 ·rw [wI e];by_cases hl:ss.length=a.length
  ·rw [wN hl,w0Y,qW];intro h;rw [qH]at h;refine e (List.ext_getElem hl λj h1 h2=> ?_);have:=h j (Qf.mpr h1);rw [wo,wO,wa h1,wo,wO,wa h2]at this;have c:(ss[j] == a[j])=true:=this;exact eq_of_beq c
  ·rw [wI hl,w11]
variable{a:Addr}{xs:List V}{ix:List Nat}{te:TE}{Q:List V->Hp->Prop}{H:Hp}
theorem z6P{K:W.Frag}{σ:St}{tc:TT}(c:Nat->List V->Hp->Prop)(h0:c 0 [] H)(hl:∀i ys H,i<=xs.length->c i ys H->SqT K H a xs/\ys.length < sizeLine)
  (hs:∀(i:Nat) x ys H,xs[i]? =some x->c i ys H->tc (sub σ ix (some x)) H λb H2=>if b=true then te (sub σ ix (some x)) H2 λy d=>c (i + 1) (ys ++ [y]) d else c (i + 1) ys H2) (hd:∀ys H,c xs.length ys H->Q ys H):z0q (Itt K a) σ ix tc te Q H:=by
 refine⟨λi m ys H=>m=xs.length - i/\i<=xs.length/\c i ys H,⟨_,rfl,qY _,h0⟩,?_⟩;rintro i m ys H ⟨rfl,hi,p⟩;obtain⟨q,hz⟩:=hl i ys H hi p;refine⟨hz,?_⟩;by_cases ag:i < xs.length
 ·refine .inr ⟨⟨xs,xs[i],q,by simp [ag]⟩,λy d=>c (i + 1) (ys ++ [y]) d,λH2=>c (i + 1) ys H2,λy d z=>⟨xs.length - (i + 1),by lia,rfl,ag,z⟩,λH2 z=>⟨xs.length - (i + 1),by lia,rfl,ag,z⟩,λx H' y=> ?_⟩;obtain⟨e,y⟩:=y;subst e;exact hs i x ys _ (y xs q) p
 ·have e:i=xs.length:=by lia
  subst e;exact .inl ⟨⟨xs,q,ww _⟩,hd ys H p⟩
def z5j{K:W.Frag}{σ:St}(b:Nat->List V->Hp->Prop)(h0:b 0 [] H)(hl:∀i ys H,i<=xs.length->b i ys H->SqT K H a xs/\ys.length < sizeLine)
  (hs:∀(i:Nat) x ys H,xs[i]? =some x->b i ys H->te (sub σ ix (some x)) H λy c=>b (i + 1) (ys ++ [y]) c) (hd:∀ys H,b xs.length ys H->Q ys H):z0q (Itt K a) σ ix z7X te Q H:=
 z6P b h0 hl (λi x ys H e p=>z7U (A:=te (sub σ ix (some x)) H λy c=>b (i + 1) (ys ++ [y]) c) (B:=b (i + 1) ys H) (hs i x ys H e p)) hd
theorem z5m{p q:Nat->Bool}:∀{l:List Nat},(∀x∈l,p x=true->q x=true)->(∃x∈l,q x=true/\p x=false)->l.countP p < l.countP q
 | [],_,⟨x,hx,_⟩=>by cases hx
 | y :: l,h,⟨x,hx,h1,h2⟩=>by
  have c:l.countP p<=l.countP q:=List.countP_mono_left λz hz=>h z (wY _ hz)
  rw [List.countP_cons,List.countP_cons];rcases wE.mp hx with rfl | hx
  ·rw [h1,h2];simp;lia
  ·have a:=z5m (λz hz=>h z (wY _ hz)) ⟨x,hx,h1,h2⟩;have b:=h y qE;cases hp:p y <;> cases hq:q y <;> simp_all <;> lia
noncomputable def rank(n:Nat)(lt:Nat->Nat->Bool)(i:Nat):Int:=(((List.range n).countP λm=>lt m i:Nat):Int)
variable{n:Nat}
theorem zbB{lt:Nat->Nat->Bool}(a:∀i,lt i i=false)(tr:∀i j k,lt i j=true->lt j k=true->lt i k=true)(nt:∀i j k,lt i k=true->lt i j=true\/lt j k=true){i j:Nat}(hi:i < n)(b:j < n):
  decide (rank n lt i < rank n lt j)=lt i j:=by
 cases h:lt i j with
 | true=>
  refine wN ?_;have:(List.range n).countP (λm=>lt m i) < (List.range n).countP (λm=>lt m j):=z5m (λx _ e=>tr x i j e h) ⟨i,Qf.mpr hi,h,a i⟩;unfold rank;lia
 | false=>
  refine wI ?_;have:(List.range n).countP (λm=>lt m j)<=(List.range n).countP (λm=>lt m i):=List.countP_mono_left λx _ e=>by
   rcases nt x i j e with h' | h'
   ·exact h'
   ·rw [h]at h';cases h'
  unfold rank;lia
variable{vs:List Value}
theorem zdp{R:Nat->Nat->Prop}(h:vs.length < 2):(List.range vs.length).Pairwise R:=by
 rcases(by lia:vs.length=0\/vs.length=1)with e | e <;> rw [e]
 ·exact List.Pairwise.nil
 ·exact List.pairwise_singleton _ _
theorem z8P{ks:List Value}(h:vs.length < 2)(e:ks.length=vs.length):(ks.toArray.zip vs.toArray).map (·.2)=((List.range vs.length).map λi=>vs.getD i Value.none).toArray:=by
 rcases vs with _ | ⟨x,_ | ⟨y,vs⟩⟩ <;> rcases ks with _ | ⟨k,_ | ⟨l,ks⟩⟩ <;> first | (exfalso;simp only [wJ,Qe]at h e;lia) | simp
variable{prog:Program}{w:World}{A:Around}{E:Value->Shared->Prop}{s:Shared}
theorem z4I{P:PySem.Fin->Shared->Prop}{κ:SortKind}{k:Nat->Int}(f:s.heap.get? a=some (seqObj "list" vs.toArray n))(D:vs.length < 64)
  (F:2<=vs.length->∀(h':Heap) (Q:SortKind->Shared->Prop),(∀b o,b≠a->s.heap.get? b=some o->h'.get? b=some o)->Q κ {s with heap:=h'}->wpAny (model prog w) A (keyKind' vs.toArray) Q E {s with heap:=h'})
  (K:∀(h':Heap),(∀b o,b≠a->s.heap.get? b=some o->h'.get? b=some o)->∀i j (C:Bool->Shared->Prop),i < vs.length->j < vs.length->C (decide (k i < k j)) {s with heap:=h'}->
   wpAny (model prog w) A (keyLt' κ (vs.getD i Value.none) (vs.getD j Value.none)) C (λ_ _=>False) {s with heap:=h'})
  (h:∀q:List Nat,q.Perm (List.range vs.length)->q.Pairwise (Rk k)->P (.done (.ret .none)) {s with heap:=sortedHeap s.heap a vs (q.map λi=>vs.getD i Value.none).toArray}):
  wpAny (model prog w) A (Builtin.«list.sort» ⟨[.ref a],[]⟩) P E s:=by
 rw [list_sort_plain];have ha:a < s.heap.objs.size:=wL f;refine wz (listItems_at f rfl ?_);refine wz (listUpdate_at f rfl ?_);obtain⟨r,u⟩:∃r,(s.heap.update a (Obj.mapSeq λ_=> #[])).get? a=some (seqObj "list" #[] r):=⟨_,get?_update_seq f (λ_=> #[])⟩
 refine wz (seqEpoch_at u rfl ?_);refine wz (wpAny_newTuple ?_);refine wz (wpAny_newList ?_);refine QP ?_;have c:(((s.heap.update a (Obj.mapSeq λ_=> #[])).push (seqObj "tuple" vs.toArray 0)).push (seqObj "list" #[] 0)).get? a=some (seqObj "list" #[] r):=by
  rw [Heap.get?_push_ne _ _ _ (by rw [size_push',Heap.size_update];exact q5 (Q5 ha)),Heap.get?_push_ne _ _ _ (by rw [Heap.size_update];exact q5 ha)];exact u
 have kp:∀b o,b≠a->s.heap.get? b=some o->(((s.heap.update a (Obj.mapSeq λ_=> #[])).push (seqObj "tuple" vs.toArray 0)).push (seqObj "list" #[] 0)).get? b=some o:=λb o z e=>by
  refine wm _ (wm _ ?_);rw [Heap.get?_update_ne _ _ _ _ z];exact e
 show wpAny (model prog w) A _ P E {s with heap:=((s.heap.update a (Obj.mapSeq λ_=> #[])).push (seqObj "tuple" vs.toArray 0)).push (seqObj "list" #[] 0)}
 dsimp only;have hsz:vs.toArray.size=vs.length:=by simp
 by_cases h2:vs.toArray.size < 2
 ·rw [wU h2,wU h2];refine wz (wZ ?_);rw [StateT.run_pure];refine wz (wZ ?_);dsimp only;refine wz (seqEpoch_at c rfl ?_);refine wz (listUpdate_at c rfl ?_ (hsz2:=by rw [Array.size_map];show(pairsOf vs).size<=_;rw [pairsOf_size,QW];lia));simp only [bne_self_eq_false,Bool.false_eq_true,w0v];have x:vs.length < 2:=by lia
  have d:(arrOf (SortSt.mk' general' (vs.toArray.zip vs.toArray) #[] 7 none)).map (·.2)=((List.range vs.length).map λi=>vs.getD i Value.none).toArray:=by
   have I:arrOf (SortSt.mk' general' (vs.toArray.zip vs.toArray) #[] 7 none)=vs.toArray.zip vs.toArray:=rfl;rw [I];exact z8P x rfl
  refine wZ ?_;have:=h (List.range vs.length) (List.Perm.refl _) (zdp x);rw [<-d]at this;exact this
 ·rw [wM h2,wM h2];refine wz (F (by lia) _ _ kp ?_);refine wz (QK (kat_run (Q:=λl s'=>∃p:Array Nat,(arrOf l).map (·.2)=(p.toList.map λi=>vs.getD i Value.none).toArray/\failedOf l=none/\s'={s with heap:=((s.heap.update a (Obj.mapSeq λ_=> #[])).push (seqObj "tuple" vs.toArray 0)).push (seqObj "list" #[] 0)}/\p.toList.Perm (List.range vs.length)/\p.toList.Pairwise (Rk k)) (vs:=vs) (ks:=vs) (G:=λp s'=>s'={s with heap:=((s.heap.update a (Obj.mapSeq λ_=> #[])).push (seqObj "tuple" vs.toArray 0)).push (seqObj "list" #[] 0)}/\p.toList.Perm (List.range vs.length)/\p.toList.Pairwise (Rk k)) rfl (by lia) D (λp l s' h1 J t y=>⟨p,kat_snds rfl J,t,y⟩)
   (zap (n:=vs.length) (k:=k) (λi j C hi B H=>K _ kp i j C hi B H) (ye (λp hp=>⟨rfl,hp⟩) (zcd (by lia) k)))) ?_ λ_ _ e=>e)
  rintro⟨⟨⟩,l⟩ s' ⟨p,d,t,rfl,pm,L⟩;dsimp only;refine wz (seqEpoch_at c rfl ?_);refine wz (listUpdate_at c rfl ?_ (hsz2:=by rw [d,wy,w9,pm.length_eq,List.length_range,QW];lia));rw [t];simp only [bne_self_eq_false,Bool.false_eq_true,w0v];have:=h p.toList pm L;rw [<-d]at this;exact wZ this
noncomputable def z1y(a b:Int×Int):Bool:=decide (a.1 < b.1\/(a.1=b.1/\a.2 < b.2))
theorem zbl{x y:Addr}{a b c d:Int}{t u v z:Tok}{C:Bool->Shared->Prop}(i:IsTup s.heap x #[.int a t,.int b u])(n:IsTup s.heap y #[.int c v,.int d z])(h:C (z1y (a,b) (c,d)) s):
  wpAny (model prog w) A (keyLt' (tuples' true) (.ref x) (.ref y)) C E s:=by
 obtain⟨D,f,_,q,p⟩:=i;obtain⟨F,j,_,B,o⟩:=n;refine kat_lt f p j o ?_;refine kat_cons (SeqAt.EqAt.int_int a t c v prog w _ _ (kat_go (λe=>kat_yes ?_) (λe=>kat_no ?_)))
 ·have l:a=c:=by simpa using e
  refine kat_cons (SeqAt.EqAt.int_int b u d z prog w _ _ (kat_go (λe=>kat_yes (kat_nil ?_)) (λe=>kat_no ?_)))
  ·have r:b=d:=by simpa using e
   have:z1y (a,b) (c,d)=false:=wI (by simp only;lia);rw [this]at h
   simpa using h
  ·have:z1y (a,b) (c,d)=decide (b < d):=by
    unfold z1y;exact w15.mpr (by simp only;lia)
   rw [this]at h;refine kat_one _ _ ?_;exact PyProof.Rows.lt_int (Q:=PySem.W.BoolBack C) h
 ·have l:¬a=c:=by simpa using e
  have:z1y (a,b) (c,d)=decide (a < c):=by
   unfold z1y;exact w15.mpr (by simp only;lia)
  rw [this]at h;exact oneLt_int h
theorem z9S(a:Int×Int):z1y a a=false:=wI (by lia)
variable{b c:Int×Int}
theorem zbK{a:Int×Int}(h:z1y a b=true)(h':z1y b c=true):z1y a c=true:=by
 have h:=qi h;have h':=qi h';exact wN (by lia)
theorem zc2{a:Int×Int}(h:z1y a c=true):z1y a b=true\/z1y b c=true:=by
 have h:=qi h;by_cases e:z1y a b=true
 ·exact .inl e
 ·refine .inr (wN ?_);have d:¬(a.1 < b.1\/(a.1=b.1/\a.2 < b.2)):=λz=>e (wN z)
  lia
abbrev PQ:=Addr×Int×Int
noncomputable def pq0:PQ:=(0,0,0)
theorem z8s{H:Hp}{s:Shared}{pins:List (Addr×Obj)}{σ:St}(I:Inv X pins σ H s){h':Heap}(kp:∀b o xs n,s.heap.get? b=some o->o.data= .seq xs n->o.cls= .type "tuple"->h'.get? b=some o):∀(ps:List PQ) (us:List Value),(∀p∈ps,H p.1=some (.tup [.int p.2.1,.int p.2.2]))->zP (ps.map λp=>V.ref p.1) us->
  ∃fs:List Value,KatTups h' us fs/\fs.length=ps.length/\∀v∈fs,∃a t,v=Value.int a t
 | [],us,_,r=>by cases r;exact⟨[],.nil,rfl,λv h=>by cases h⟩
 | p :: ps,us,hp,r=>by
  rw [wR]at r;cases r with
  | cons r1 r2=>
   cases r1;obtain⟨fs,k,l,hi⟩:=z8s I kp ps _ (λq hq=>hp q (wY _ hq)) r2;obtain⟨a6,r',pl,_⟩:=I.tuple (SqT.of (hp p qE));obtain⟨u,e,rfl,⟨t,rfl⟩,_⟩:=vals2 r';obtain⟨o,d,c,n,hd⟩:=pl;refine⟨.int p.2.1 t :: fs,KatTups.cons (kp _ _ _ _ d hd c) c hd rfl k,by rw [wJ,l,wJ],λv hv=> ?_⟩;rcases wE.mp hv with rfl | hv
   ·exact⟨_,_,rfl⟩
   ·exact hi v hv
theorem z5D(hc:X.calm=true):yZ X (.builtin "sorted") (λxs H Q=>∃(l:Addr) (ps:List PQ),xs= [.ref l]/\SqL X.K H l (ps.map λp=>V.ref p.1)/\(∀p∈ps,H p.1=some (.tup [.int p.2.1,.int p.2.2]))/\ps.length < 64/\
  ∀(r:Addr) (c:List Nat),H r=none->c.Perm (List.range ps.length)->c.Pairwise (λi j=>z1y (ps.getD j pq0).2 (ps.getD i pq0).2=false)->Q (.ref r) (upd H r (.lst (c.map λi=>V.ref (ps.getD i pq0).1)))):=by
 intro pins s σ H xs us Q I r h;obtain⟨l,ps,rfl,hq,hp,nv,q⟩:=h;obtain⟨u,rfl,rx⟩:=vals1 r;cases rx;obtain⟨vs,z,pl,hz⟩:=I.list hq;have hlen:vs.length=ps.length:=by
  have:=z.length;rw [w9]at this
  lia
 refine Calls.call_function_entry kind_sorted plain_sorted entry_sorted (args_sorted1 _) ?_;unfold Builtin.«sorted»;refine wz (m:=checkCount "sorted" 1 1 _) (wZ ?_);refine wz (collect_list pl.isList ?_ (by rw [QW];lia));refine wz (wpAny_newList ?_ (by rw [QW];lia));obtain⟨h1,J⟩:∃h1,(s.heap.push (seqObj "list" #[] 0)).update s.heap.objs.size (Obj.mapSeq (· ++ vs.toArray))=h1:=⟨_,rfl⟩
 have E:∀b o,s.heap.get? b=some o->h1.get? b=some o:=λb o e=>by
  have f:=wL e;rw [<-J,Heap.get?_update_ne _ _ _ _ (q5 f)];exact wm _ e
 rw [J];have M:Inv X pins σ H {s with heap:=h1}:=I.kept (t':=s.toks) E;have B:(h1.push (seqObj "list" vs.toArray 0)).get? h1.objs.size=some (seqObj "list" vs.toArray 0):=qc _ rfl;have A:∀b o,s.heap.get? b=some o->b≠h1.objs.size/\(h1.push (seqObj "list" vs.toArray 0)).get? b=some o:=λb o e=>⟨q5 (wL (E b o e)),wm _ (E b o e)⟩
 obtain⟨lt,y⟩:∃lt:Nat->Nat->Bool,lt=λi j=>z1y (ps.getD i pq0).2 (ps.getD j pq0).2:=⟨_,rfl⟩
 have O:∀{i j:Nat},i < ps.length->j < ps.length->decide (rank ps.length lt i < rank ps.length lt j)=lt i j:=λhi d=>
  zbB (λi=>by rw [y];exact z9S _) (λi j k a b=>by rw [y]at *;exact zbK a b) (λi j k a=>by rw [y]at *;exact zc2 a) hi d
 refine wz (QP (wpAny_call_entry slot_list_sort ⟨_,B,rfl⟩ entry_list_sort (z4I (κ:=tuples' true) (k:=rank ps.length lt) B (by lia) (λh2 h' Q' kp hQ=> ?kk) (λh' kp i j C hi d L=> ?cm) λc pm pw=>⟨_,rfl,?fin⟩) (args_list_sort _)))
 case kk=>
  obtain⟨fs,k,lf,hi⟩:=z8s I (h':=h') (λb o xs n e _ _=>kp b o (A b o e).1 (A b o e).2) ps vs hp z;refine kat_kind (T:= .type "int") k (by lia) (λv R=> ?_) (by decide) hQ;obtain⟨a,t,rfl⟩:=hi v R;exact .now
 case cm=>
  have get:∀m,m < ps.length->∃(t u:Tok),vs.getD m Value.none= .ref (ps.getD m pq0).1/\IsTup h' (ps.getD m pq0).1 #[.int (ps.getD m pq0).2.1 t,.int (ps.getD m pq0).2.2 u]:=λm hm=>by
   have g:(ps.map λp=>V.ref p.1)[m]? =some (V.ref ps[m].1):=by rw [wO,wa hm];rfl
   have N:ps.getD m pq0=ps[m]:=by rw [wo,wa hm];rfl
   obtain⟨w,F,D⟩:=z.get g;cases D;obtain⟨a6,r',pl,_⟩:=I.tuple (SqT.of (hp _ (wG hm)));obtain⟨u,w',rfl,⟨t,rfl⟩,⟨t',rfl⟩⟩:=vals2 r';obtain⟨o,G,S,n,hd⟩:=pl;refine⟨t,t',?_,?_⟩
   ·rw [wo,F,N];rfl
   ·rw [N];exact⟨o,kp _ _ (A _ _ G).1 (A _ _ G).2,S,n,hd⟩
  obtain⟨t,u,e1,t1⟩:=get i (by lia);obtain⟨t',u',e2,t2⟩:=get j (by lia);rw [e1,e2];rw [O (by lia) (by lia),y]at L;exact zbl t1 t2 L
 case fin=>
  refine wZ ⟨_,rfl,?_⟩;obtain⟨e,he⟩:=sortedHeap_at (out:=(c.map λi=>vs.getD i Value.none).toArray) B;rw [hlen]at pm;have U:c.Pairwise (λi j=>z1y (ps.getD j pq0).2 (ps.getD i pq0).2=false):=by
   refine(QQ.mpr λa b ha f Y=> ?_);have h0:=QQ.mp pw a b ha f Y;have P:c[a] < ps.length:=Qf.mp (pm.mem_iff.mp (wG ha));have mb:c[b] < ps.length:=Qf.mp (pm.mem_iff.mp (wG f));have:=O mb P;have Z:lt c[b] c[a]=z1y (ps.getD c[b] pq0).2 (ps.getD c[a] pq0).2:=by rw [y]
   rw [<-Z,<-this];refine wI ?_;unfold Rk at h0
   lia
  refine⟨.ref h1.objs.size,upd H h1.objs.size (.lst (c.map λi=>V.ref (ps.getD i pq0).1)),?_,rfl,q _ c M.fresh pm U⟩;refine M.laid (a:=h1.objs.size) (t':=s.toks) (λb o e=> ?_) (ww _) ⟨?_,c.map λi=>vs.getD i Value.none,e,?_,?_⟩
  ·have f:=wL e;rw [sortedHeap_old (q5 f) (by rw [Qg];exact Q5 f)];exact wm _ e
  ·rw [w9,pm.length_eq,List.length_range];exact ja (by lia)
  ·have go:∀x:List Nat,(∀j∈x,j < ps.length)->zP (x.map λi=>V.ref (ps.getD i pq0).1) (x.map λi=>vs.getD i Value.none):=λx=>by
    induction x with
    | nil=>intro _;exact .nil
    | cons j x ih=>
     intro d;rw [wR,wR];refine .cons ?_ (ih λm hm=>d m (wY _ hm));have hm:=d j qE;have g:(ps.map λp=>V.ref p.1)[j]? =some (V.ref ps[j].1):=by rw [wO,wa hm];rfl
     obtain⟨w,F,D⟩:=z.get g;rw [wo,wa hm,wo,F];exact D
   exact go c λj d=>Qf.mp (pm.mem_iff.mp d)
  ·exact he
@[elab_as_elim] theorem zc {motive:Hp->Prop}  {p:Addr} {o:HO} (K:Hp) (e:K=upd H p o) (hp:H p=none) (h:∀H',zz H H'->H' p=some o->motive H'):motive K:=by
 subst e;exact h _ (zJ hp o) zj
end L2

namespace Qs
open PySem L2 Cn Rw
inductive Qn where
 | table (n:Str) | pick (c:Cond) (q:Qn) | cols (ns:List Str) (q:Qn) | pair (q r:Qn) | join (a b:Str) (q r:Qn)
 | both (q r:Qn) | first (n:Int) (q:Qn) | group (a b n s:Str) (q:Qn) | sort (a:Str) (q:Qn)
def QAt(H:Hp):Qn->V->Prop
 | .table n,v=>∃p,v= .ref p/\H p=some (.tup [.str "table",.str n])
 | .pick c q,v=>∃p x y,v= .ref p/\H p=some (.tup [.str "pick",x,y])/\zI H c x/\QAt H q y
 | .cols ns q,v=>∃p x y,v= .ref p/\H p=some (.tup [.str "cols",.ref x,y])/\H x=some (.tup (ns.map V.str))/\QAt H q y
 | .pair q r,v=>∃p x y,v= .ref p/\H p=some (.tup [.str "pair",x,y])/\QAt H q x/\QAt H r y
 | .join a b q r,v=>∃p x y,v= .ref p/\H p=some (.tup [.str "join",.str a,.str b,x,y])/\QAt H q x/\QAt H r y
 | .both q r,v=>∃p x y,v= .ref p/\H p=some (.tup [.str "both",x,y])/\QAt H q x/\QAt H r y
 | .first n q,v=>∃p y,v= .ref p/\H p=some (.tup [.str "first",.int n,y])/\QAt H q y
 | .group a b n s q,v=>∃p y,v= .ref p/\H p=some (.tup [.str "group",.str a,.str b,.str n,.str s,y])/\QAt H q y
 | .sort a q,v=>∃p y,v= .ref p/\H p=some (.tup [.str "sort",.str a,y])/\QAt H q y
theorem QAt.mono{H H':Hp}(t:∀b xs,H b=some (.tup xs)->H' b=some (.tup xs)):∀{q:Qn} {v:V},QAt H q v->QAt H' q v
 | .table _,_,h=>by
  obtain⟨p,rfl,h⟩:=h;exact⟨p,rfl,t _ _ h⟩
 | .pick _ _,_,h=>by
  obtain⟨p,x,y,rfl,h,h1,h2⟩:=h;exact⟨p,x,y,rfl,t _ _ h,h1.mono t,h2.mono t⟩
 | .cols _ _,_,h=>by
  obtain⟨p,x,y,rfl,h,h1,h2⟩:=h;exact⟨p,x,y,rfl,t _ _ h,t _ _ h1,h2.mono t⟩
 | .pair _ _,_,h=>by
  obtain⟨p,x,y,rfl,h,h1,h2⟩:=h;exact⟨p,x,y,rfl,t _ _ h,h1.mono t,h2.mono t⟩
 | .join _ _ _ _,_,h=>by
  obtain⟨p,x,y,rfl,h,h1,h2⟩:=h;exact⟨p,x,y,rfl,t _ _ h,h1.mono t,h2.mono t⟩
 | .both _ _,_,h=>by
  obtain⟨p,x,y,rfl,h,h1,h2⟩:=h;exact⟨p,x,y,rfl,t _ _ h,h1.mono t,h2.mono t⟩
 | .first _ _,_,h=>by
  obtain⟨p,y,rfl,h,h2⟩:=h;exact⟨p,y,rfl,t _ _ h,h2.mono t⟩
 | .group _ _ _ _ _,_,h=>by
  obtain⟨p,y,rfl,h,h2⟩:=h;exact⟨p,y,rfl,t _ _ h,h2.mono t⟩
 | .sort _ _,_,h=>by
  obtain⟨p,y,rfl,h,h2⟩:=h;exact⟨p,y,rfl,t _ _ h,h2.mono t⟩
theorem QAt.same{H H':Hp}{q:Qn}{v:V}(e:zz H H')(h:QAt H q v):QAt H' q v:=h.mono λb xs z=>e b _ z
noncomputable def Side.txt:Side->Str
 | .nm s=>s
 | .nu i=>toString i
noncomputable def ends(a b:Side):Str:=Side.txt a ++ " " ++ Side.txt b
noncomputable def yv:Cond->Str
 | .less a b=>"(" ++ "less" ++ " " ++ ends a b ++ ")"
 | .same a b=>"(" ++ "same" ++ " " ++ ends a b ++ ")"
 | .no c=>"(" ++ "not" ++ " " ++ yv c ++ ")"
 | .an c d=>"(" ++ "and" ++ " " ++ (yv c ++ " " ++ yv d) ++ ")"
 | .or c d=>"(" ++ "or" ++ " " ++ (yv c ++ " " ++ yv d) ++ ")"
noncomputable def zA:Qn->Str
 | .table n=>n
 | .pick c q=>"(pick " ++ yv c ++ " " ++ zA q ++ ")"
 | .cols ns q=>"(cols " ++ Str.join " " ns ++ " " ++ zA q ++ ")"
 | .pair q r=>"(pair " ++ zA q ++ " " ++ zA r ++ ")"
 | .join a b q r=>"(join " ++ a ++ " " ++ b ++ " " ++ zA q ++ " " ++ zA r ++ ")"
 | .both q r=>"(both " ++ zA q ++ " " ++ zA r ++ ")"
 | .first n q=>"(first " ++ (toString n:Str) ++ " " ++ zA q ++ ")"
 | .group a b n s q=>"(group " ++ (a ++ " " ++ b ++ " " ++ n ++ " " ++ s) ++ " " ++ zA q ++ ")"
 | .sort a q=>"(sort " ++ a ++ " " ++ zA q ++ ")"
noncomputable def leK(k:Nat->Int)(i j:Nat):Bool:=decide (k i < k j\/(k i=k j/\i<=j))
noncomputable def z2j(k:Nat->Int)(n:Nat):List Nat:=(List.range n).mergeSort (leK k)
theorem z0L(k:Nat->Int)(n:Nat):(z2j k n).Perm (List.range n):=List.mergeSort_perm _ _
theorem z7B(k:Nat->Int)(n:Nat):(z2j k n).Pairwise λi j=>leK k i j=true:=
 List.pairwise_mergeSort (λa b c h1 h2=>by
  have h1:=qi h1;have h2:=qi h2;exact wN (by lia)) (λa b=>by
  unfold leK;rw [Bool.or_eq_true,decide_eq_true_eq,decide_eq_true_eq]
  lia) _
theorem z6z{k:Nat->Int}{n:Nat}{c:List Nat}(hp:c.Perm (List.range n))(d:c.Pairwise λi j=>leK k i j=true):c=z2j k n:=by
 refine List.Perm.eq_of_pairwise (le:=λi j=>leK k i j=true) (λa b _ _ h1 h2=> ?_) d (z7B k n) (hp.trans (z0L k n).symm);have h1:=qi h1;have h2:=qi h2
 lia
theorem z7v(k:Nat->Int)(n:Nat):(z2j k n).length=n:=by rw [(z0L k n).length_eq,List.length_range]
noncomputable def z3m(rows:List (List Int))(s:Nat)(i:Nat):Int:=(rows.getD i []).getD s 0
noncomputable def z06(s:Nat)(rows:List (List Int)):List (List Int):=(z2j (z3m rows s) rows.length).map λi=>rows.getD i []
noncomputable def z0K(s:Nat)(rows:List (List Int)):List Int:=rows.foldl (λa r=>if r.getD s 0∈a then a else a ++ [r.getD s 0]) []
noncomputable def z3P(s p:Nat)(rows:List (List Int))(k:Int):List Int:= [k,(((rows.filter λr=>decide (r.getD s 0=k)).length:Nat):Int),((rows.filter λr=>decide (r.getD s 0=k)).map λr=>r.getD p 0).sum]
noncomputable def zab(s p:Nat)(rows:List (List Int)):List (List Int):=(z0K s rows).map (z3P s p rows)
noncomputable def pairs(xs ys:List (List Int)):List (List Int):=xs.flatMap λx=>ys.map λy=>x ++ y
section
variable(th:Str->List Str)(tr:Str->List (List Int))
noncomputable def za:Qn->List Str
 | .table n=>th n
 | .pick _ q=>za q
 | .cols ns _=>ns
 | .pair q r=>za q ++ za r
 | .join _ _ q r=>za q ++ za r
 | .both q _=>za q
 | .first _ q=>za q
 | .group a _ n s _=> [a,n,s]
 | .sort _ q=>za q
noncomputable def rowsOf:Qn->List (List Int)
 | .table n=>tr n
 | .pick c q=>(rowsOf q).filter λr=>ev (za th q) r c
 | .cols ns q=>(rowsOf q).map λr=>ns.map λn=>r.getD ((za th q).idxOf n) 0
 | .pair q r=>pairs (rowsOf q) (rowsOf r)
 | .join a b q r=>(pairs (rowsOf q) (rowsOf r)).filter λz=>decide (z.getD ((za th q ++ za th r).idxOf a) 0=z.getD ((za th q ++ za th r).idxOf b) 0)
 | .both q r=>rowsOf q ++ rowsOf r
 | .first n q=>(rowsOf q).take n.toNat
 | .group a b _ _ q=>zab ((za th q).idxOf a) ((za th q).idxOf b) (rowsOf q)
 | .sort a q=>z06 ((za th q).idxOf a) (rowsOf q)
end
noncomputable def j9:List Str:= ["a","b","f","g","h","i","j","k","l","o","p","q"]
noncomputable def z2o:List Str:= ["abcabcabcd","abcabcabce"]
noncomputable def signs:List Str:= ["a","b","c","d","e","f","g","h","i","j","k","l","m","n","o","p","q","r","s","t","u","v","w","x","y","z"]
noncomputable def z08(k used:Nat):List Str:=j9 ++ (if 2<=used then z2o else []) ++ (if 3<=used then(["e"]:List Str)else []) ++ ((signs.take k).map λs=>(("n":Str) ++ s:Str)) ++ ((signs.take k).map λs=>(("s":Str) ++ s:Str))
noncomputable def tabs:List Str:= ["t","tuvtuvtuvw","tuvtuvtuvx","tuvz"]
noncomputable def nums:List Int:= [0,1,-1,2,10 ^ 30,3]
noncomputable def z0f:List Int:= [9,1,5,3,12,7,0,10 ^ 9,4,2,8]
def Side.small(hs:List Str):Side->Prop
 | .nm s=>s∈hs
 | .nu i=>i∈nums
def jy(hs:List Str):Cond->Prop
 | .less a b=>Side.small hs a/\Side.small hs b
 | .same a b=>Side.small hs a/\Side.small hs b
 | .no c=>jy hs c
 | .an c d=>jy hs c/\jy hs d
 | .or c d=>jy hs c/\jy hs d
theorem jy.ok{hs:List Str}:∀{c:Cond},jy hs c->c.ok hs
 | .less a b,h=>by
  refine⟨?_,?_⟩
  ·cases a with
   | nm s=>exact h.1
   | nu i=>trivial
  ·cases b with
   | nm s=>exact h.2
   | nu i=>trivial
 | .same a b,h=>by
  refine⟨?_,?_⟩
  ·cases a with
   | nm s=>exact h.1
   | nu i=>trivial
  ·cases b with
   | nm s=>exact h.2
   | nu i=>trivial
 | .no c,h=>jy.ok (c:=c) h
 | .an c d,h=>⟨jy.ok h.1,jy.ok h.2⟩
 | .or c d,h=>⟨jy.ok h.1,jy.ok h.2⟩
def okQ(th:Str->List Str):Qn->Prop
 | .table n=>n∈tabs
 | .pick c q=>jy (za th q) c/\c.size<=6/\okQ th q
 | .cols ns q=>ns≠ []/\ns.Nodup/\(∀n∈ns,n∈za th q)/\okQ th q
 | .pair q r=>(∀n∈za th q,n∉za th r)/\okQ th q/\okQ th r
 | .join a b q r=>a∈za th q/\b∈za th r/\(∀n∈za th q,n∉za th r)/\okQ th q/\okQ th r
 | .both q r=>za th q=za th r/\okQ th q/\okQ th r
 | .first n q=>n∈z0f/\okQ th q
 | .group a b n s q=>a∈za th q/\b∈za th q/\(∃g∈signs,n=("n":Str) ++ g/\s=("s":Str) ++ g)/\a≠n/\a≠s/\okQ th q
 | .sort a q=>a∈za th q/\okQ th q
noncomputable def depth:Qn->Nat
 | .table _=>1
 | .pick _ q=>depth q + 1
 | .cols _ q=>depth q + 1
 | .pair q r=>max (depth q) (depth r) + 1
 | .join _ _ q r=>max (depth q) (depth r) + 1
 | .both q r=>max (depth q) (depth r) + 1
 | .first _ q=>depth q + 1
 | .group _ _ _ _ q=>depth q + 1
 | .sort _ q=>depth q + 1
structure TabOk(th:Str->List Str)(tr:Str->List (List Int)):Prop where
 t:∃m,2<=m/\m<=12/\th "t"=j9.take m
 w:th "tuvtuvtuvw"=z2o
 x:th "tuvtuvtuvx"=(["e"]:List Str)
 z:th "tuvz"=th "t"
 rl:∀n∈tabs,∀r∈tr n,r.length=(th n).length
 ct:(tr "t").length<=60
 cw:(tr "tuvtuvtuvw").length<=10
 cx:(tr "tuvtuvtuvx").length<=10
 cz:(tr "tuvz").length=3
theorem z7N:j9.Nodup:=by decide +kernel
theorem zeb:∀g∈signs,(("n":Str) ++ g:Str)≠(("s":Str) ++ g:Str):=by decide +kernel
section
variable{th:Str->List Str}{tr:Str->List (List Int)}
theorem TabOk.hd(T:TabOk th tr):∀n∈tabs,th n≠ []/\(th n).Nodup:=by
 obtain⟨m,b,a,e⟩:=T.t;have ht:th "t"≠ []/\(th "t").Nodup:=by
  rw [e];refine⟨λz=> ?_,z7N.sublist (List.take_sublist _ _)⟩;have:=Qa List.length z;rw [wS]at this;simp [j9]at this
  lia
 intro n hn;simp only [tabs,wE,qf,Qu]at hn;rcases hn with rfl | rfl | rfl | rfl
 ·exact ht
 ·rw [T.w];exact⟨by decide +kernel,by decide +kernel⟩
 ·rw [T.x];exact⟨by decide +kernel,by decide +kernel⟩
 ·rw [T.z];exact ht
theorem jA(T:TabOk th tr):∀{q:Qn},okQ th q->za th q≠ []/\(za th q).Nodup
 | .table n,h=>T.hd n h
 | .pick _ q,h=>jA T (q:=q) h.2.2
 | .cols ns q,h=>⟨h.1,h.2.1⟩
 | .pair q r,h=>by
  have h1:=jA T (q:=q) h.2.1;have h2:=jA T (q:=r) h.2.2;refine⟨by show _ ++ _≠_;simp [h1.1],QL.mpr ⟨h1.2,h2.2,λa ha b c e=>h.1 a ha (e ▸ c)⟩⟩
 | .join a b q r,h=>by
  have h1:=jA T (q:=q) h.2.2.2.1;have h2:=jA T (q:=r) h.2.2.2.2;refine⟨by show _ ++ _≠_;simp [h1.1],QL.mpr ⟨h1.2,h2.2,λa ha b c e=>h.2.2.1 a ha (e ▸ c)⟩⟩
 | .both q r,h=>jA T (q:=q) h.2.1
 | .first _ q,h=>jA T (q:=q) h.2
 | .group a b n s q,h=>by
  obtain⟨_,_,⟨g,d,rfl,rfl⟩,h1,h2,_⟩:=h;refine⟨by show [_,_,_]≠ [];simp,?_⟩
  show List.Nodup [a,_,_]
  simp [h1,h2,zeb g d]
 | .sort _ q,h=>jA T (q:=q) h.2
theorem z20{xs ys:List (List Int)}{z:List Int}(h:z∈pairs xs ys):∃x∈xs,∃y∈ys,z=x ++ y:=by
 obtain⟨x,b,h⟩:=List.mem_flatMap.mp h;obtain⟨y,a,e⟩:=qA.mp h;exact⟨x,b,y,a,e.symm⟩
theorem z55{s:Nat}{rows:List (List Int)}{r:List Int}(h:r∈z06 s rows):r∈rows:=by
 obtain⟨i,hi,e⟩:=qA.mp h;have hl:=Qf.mp ((z0L _ _).mem_iff.mp hi);rw [<-e,wo,wa hl];exact wG hl
theorem jJ(T:TabOk th tr):∀{q:Qn},okQ th q->∀r∈rowsOf th tr q,r.length=(za th q).length
 | .table n,h=>λr m=>T.rl n h r m
 | .pick c q,h=>λr m=>jJ T (q:=q) h.2.2 r (Qp.mp m).1
 | .cols ns q,h=>λr m=>by
  obtain⟨x,_,rfl⟩:=qA.mp m;rw [w9];rfl
 | .pair q s,h=>λr m=>by
  obtain⟨x,d,y,e,rfl⟩:=z20 m
  show _=(za th q ++ za th s).length
  rw [wb,wb,jJ T (q:=q) h.2.1 x d,jJ T (q:=s) h.2.2 y e]
 | .join a b q s,h=>λr m=>by
  obtain⟨x,d,y,e,rfl⟩:=z20 (Qp.mp m).1
  show _=(za th q ++ za th s).length
  rw [wb,wb,jJ T (q:=q) h.2.2.2.1 x d,jJ T (q:=s) h.2.2.2.2 y e]
 | .both q s,h=>λr m=>by
  rcases wx.mp m with m | m
  ·exact jJ T (q:=q) h.2.1 r m
  ·have:=jJ T (q:=s) h.2.2 r m;rw [<-h.1]at this;exact this
 | .first n q,h=>λr m=>jJ T (q:=q) h.2 r (QC m)
 | .group a b n s q,h=>λr m=>by
  obtain⟨x,_,rfl⟩:=qA.mp m
  rfl
 | .sort a q,h=>λr m=>jJ T (q:=q) h.2 r (z55 m)
end
end Qs
namespace Qs
open PySem L2 Cn Rw
theorem z6l:∀s∈j9,s.length<=10:=by decide +kernel
theorem ze3:∀s∈z2o,s.length<=10:=by decide +kernel
theorem zdM:∀s∈(["e"]:List Str),s.length<=10:=by decide +kernel
theorem z2L:∀g∈signs,(("n":Str) ++ g:Str).length<=10/\(("s":Str) ++ g:Str).length<=10/\g.length=1:=by decide +kernel
variable{th:Str->List Str}{tr:Str->List (List Int)}
theorem z54(T:TabOk th tr):∀n∈tabs,∀s∈th n,s.length<=10:=by
 obtain⟨m,b,a,e⟩:=T.t;have ht:∀s∈th "t",s.length<=10:=by
  rw [e];exact λs hs=>z6l s (QC hs)
 intro n hn;simp only [tabs,wE,qf,Qu]at hn;rcases hn with rfl | rfl | rfl | rfl
 ·exact ht
 ·rw [T.w];exact ze3
 ·rw [T.x];exact zdM
 ·rw [T.z];exact ht
theorem zZ(T:TabOk th tr):∀{q:Qn},okQ th q->∀s∈za th q,s.length<=10
 | .table n,h=>z54 T n h
 | .pick _ q,h=>zZ T (q:=q) h.2.2
 | .cols ns q,h=>λs hs=>zZ T (q:=q) h.2.2.2 s (h.2.2.1 s hs)
 | .pair q r,h=>λs hs=>by
  rcases wx.mp hs with hs | hs
  ·exact zZ T (q:=q) h.2.1 s hs
  ·exact zZ T (q:=r) h.2.2 s hs
 | .join a b q r,h=>λs hs=>by
  rcases wx.mp hs with hs | hs
  ·exact zZ T (q:=q) h.2.2.2.1 s hs
  ·exact zZ T (q:=r) h.2.2.2.2 s hs
 | .both q r,h=>zZ T (q:=q) h.2.1
 | .first _ q,h=>zZ T (q:=q) h.2
 | .group a b n s q,h=>λx e=>by
  obtain⟨ha,_,⟨g,c,rfl,rfl⟩,_,_,hq⟩:=h;have d:x∈ [a,("n":Str) ++ g,("s":Str) ++ g]:=e;simp only [wE,qf,Qu]at d;rcases d with rfl | rfl | rfl
  ·exact zZ T (q:=q) hq _ ha
  ·exact(z2L g c).1
  ·exact(z2L g c).2.1
 | .sort _ q,h=>zZ T (q:=q) h.2
def yJ(th:Str->List Str)(tr:Str->List (List Int))(H:Hp)(v:V)(q:Qn):Prop:=∃(p:Addr) (qv:V) (hp rp:Addr) (rs:List (Addr×List Int)),v= .ref p/\H p=some (.tup [qv,.str (zA q),.ref hp,.ref rp])/\QAt H q qv/\
 H hp=some (.lst ((za th q).map V.str))/\RowsAt H rp rs/\rs.map (·.2)=rowsOf th tr q
theorem yJ.same{H H':Hp}{v:V}{q:Qn}(h:yJ th tr H v q)(e:zz H H'):yJ th tr H' v q:=by
 obtain⟨p,qv,hp,rp,rs,rfl,h1,h2,b,c,a⟩:=h;exact⟨p,qv,hp,rp,rs,rfl,e _ _ h1,h2.same e,e _ _ b,c.same e,a⟩
end Qs

namespace L2
open PySem PySem.Spec PyProof.Rows
variable{P:Program}{w:World}{x:Str}{fd:FuncData}{sp:Sp}
section
variable{K:W.Frag}{mg:Str->Option Value}{base:Heap}
theorem Fun.okC{qual:Str}{st:Stmt}{f:Addr}{N ps:List Str}{k:Nat}(F:Fun K x qual st f fd)(S:FnScope N ps (zm st))(len:∀vs H Q E,sp vs H Q E->vs.length=ps.length)
  (c:∀(A:Around) (outer:List Env) (s:Shared) (H:Hp) (vs:List V) (Q:VK) (E:XK),Room k (A.deeper (envOfC qual (zm st) s.heap.objs.size f fd.code))->sp vs H Q E->
   ∃t,PSs (z38 CX0 P w K mg base N qual (zm st) f fd.code A outer s H E).nox (ym st) t/\t {nx:=λ_ H'=>Q .non H',rt:=Q} (start N vs) H):FnOk P w K mg base CX0 (k + 1) f fd ps sp:=by
 obtain⟨oc,od,kV,aR,pm,an,ac,ct,cu,rfl,a,b⟩:=F.ex;refine zcu a b S len λA outer s H vs Q E hr d=> ?_
 obtain⟨t,h,q⟩:=c A outer s H vs Q E hr d;exact⟨t,h.nox,q⟩
end
def z87(H:Hp)(T:Addr)(lp:Pos)(q:Str)(c:Addr):Prop:=
 H T=some (.tbl #[rawInt lp.line,rawInt lp.col,.ref c])/\∃oc vs t,H c=some (.frz oc (.own 0))/\oc.data= .fields vs/\vs[1]? =some (.str q t)
def z1z(H:Hp)(T:Addr)(lp:Pos)(q:Str):Prop:=H T=some (.tbl #[])\/∃c,z87 H T lp q c
variable{H:Hp}{T:Addr}{lp:Pos}{q:Str}
theorem z1z.ne{a:Addr}{u:HO}(h:z1z H T lp q)(e:H a=some u)(b:∀ps,u≠ .tbl ps):a≠T:=by
 rintro rfl;rcases h with h | ⟨c,h,_⟩
 ·rw [h]at e;cases e;exact b _ rfl
 ·rw [h]at e;cases e;exact b _ rfl
theorem z1z.same{H':Hp}(h:z1z H T lp q)(k:zz H H'):z1z H' T lp q:=by
 rcases h with h | ⟨c,h,oc,vs,t,h2,a⟩
 ·exact .inl (k _ _ h)
 ·exact .inr ⟨c,k _ _ h,oc,vs,t,k _ _ h2,a⟩
section
variable{X:Cx}{pins:List (Addr×Obj)}{σ:St}{s:Shared}{A:Around}{E:Value->Shared->Prop}
noncomputable abbrev z3V(X:Cx)(params:Arguments)(body:Expr)(scope:Scope)(pm:Value)(c:Addr)(ct:Value):Obj:=
 PySem.W.kla_obj "<lambda>" (X.env.qual ++ "<lambda>") params body scope (z01 X.env scope.names []) pm c ct
theorem zaU{c:Addr}{params:Arguments}{body:Expr}{scope:Scope}{Q:Value->Shared->Prop}(I:Inv X pins σ H s)(hc:X.env.code= .ref c)(C:PySem.W.CodeHd X.base c T)(B:X.base.BuiltinsAt X.mg T)
  (hL:z1z H T lp (X.env.qual ++ "<lambda>")) (fO:defaultsOf params X.env=([],[])) (clo:∀y∈scope.names,y.2= .free->X.env.kindOf y.1=some .cell\/X.env.kindOf y.1=some .free)
  (h:∀f c' ct pm H' s',Kp T H H'->z87 H' T lp (X.env.qual ++ "<lambda>") c'->Inv X (pins ++ [(f,z3V X params body scope pm c' ct)]) σ H' s'->Q (.ref f) s'):
  wpAny (model X.prog X.w) A (eval (.Lambda params body scope lp) X.env) Q E s:=by
 have M:∀y∈scope.names,y.2= .free->∃c,X.env.cells.lookup y.1=some c:=λy U G=>I.ok.has y.1 (clo y U G)
 have J:s.heap.Ns mainGlobals X.mg:=by
  obtain⟨o,es,ep,e,r⟩:=I.mod.glob;exact⟨o,es,ep,I.bk _ _ e,r⟩
 have L:s.heap.BuiltinsAt X.mg T:=by
  obtain⟨R,o,b1,b2,b3,b4,b5,b6⟩:=B;exact⟨R,o,b1,b2,b3,b4,I.bk _ _ b5,b6⟩
 refine PySem.W.kla_eval fO ?_;rcases hL with a | ⟨c',a,oc,vs,t,h2,h3,Y⟩
 ·have D:s.heap.get? T=some (PySem.W.tabObj #[]):=I.hok T _ a;have Z:mainGlobals≠T:=λz=>by
   obtain⟨o,es,ep,e,r⟩:=I.mod.glob;have:=(I.bs _ _ e).2;rw [z,a]at this;cases this
  refine PySem.W.kla_makeFunction (ps:= #[]) (kS M) I.ok.glob J hc (C.keeps I.bk) D trivial rfl Z L λc' ct h' tk hx j K fP F=> ?_
  obtain⟨c2,oc,vs,t,e2,P,hd,S⟩:=fP;cases e2;have nc:H c'=none:=I.hok.fresh j;have O:c'≠T:=λz=>by rw [z,a]at nc;cases nc
  have N:h'.get? T=some (PySem.W.tabObj #[rawInt lp.line,rawInt lp.col,.ref c']):=by simpa using F
  have ne:∀b u,H b=some u->b≠c':=λb u e=>zy e nc
  have up:∀b o,b≠T->s.heap.get? b=some o->(h'.push (z3V X params body scope ((X.mg "__name__").getD .none) c' ct)).get? b=some o:=λb o n e=>wm _ (hx b o n e)
  have i:∀b,b≠T->b≠c'->upd (upd H c' (.frz oc (.own 0))) T (.tbl #[rawInt lp.line,rawInt lp.col,.ref c']) b=H b:=λb n1 n2=>by rw [zn n1,zn n2]
  have x:∀b u,H b=some u->(∀ps,u≠ .tbl ps)->b≠T:=λb u e hu z=>by rw [z,a]at e;cases e;exact hu _ rfl
  have l:Inv X pins σ (upd (upd H c' (.frz oc (.own 0))) T (.tbl #[rawInt lp.line,rawInt lp.col,.ref c'])) {s with heap:=h'.push (z3V X params body scope ((X.mg "__name__").getD .none) c' ct),toks:=tk}:=by
   refine I.un ⟨λb o e n _ _=>up b o (λz=>by rw [z,a]at n;cases n) e,λb o e n _ _=>⟨o.slots,up b o (λz=>by rw [z,a]at n;cases n) e⟩,λb o e n _=> ?_,λb o e _=> ?_,λb xs e=> ?_,λb o u e=> ?_,λb ps e=> ?_⟩ λb u e=> ?_
   ·rw [i b (λz=>by rw [z,a]at n;cases n) (q5 (wT (wL e) j))];exact n
   ·by_cases hb:b=T
    ·exact⟨_,wm _ (hb ▸ N)⟩
    ·exact⟨o,up b o hb e⟩
   ·rw [i b (x b _ e λps z=>by cases z) (ne b _ e)];exact e
   ·rw [i b (x b _ e λps z=>by cases z) (ne b _ e)];exact e
   ·by_cases hb:b=T
    ·rw [hb,a]at e;cases e;rw [hb];exact⟨#[rawInt lp.line,rawInt lp.col,.ref c'],by rw [zj];simp⟩
    ·exact⟨#[],by rw [i b hb (ne b _ e),e];simp⟩
   ·by_cases hb:b=T
    ·rw [hb]at e ⊢;rw [zj]at e;cases e;exact wm _ N
    ·by_cases eI:b=c'
     ·rw [eI]at e ⊢;rw [zn O,zj]at e;cases e;exact⟨wm _ P,oc,wm _ P⟩
     ·rw [i b hb eI]at e;refine(I.hok b u e).stay (λd v hd q=>up d v ?_ q) (λd q=> ?_) λd xs q=> ?_
      ·rcases hd with hd | hd
       ·rw [hd];exact hb
       ·exact x d _ hd λps z=>by cases z
      ·rw [i d (x d _ q λps z=>by cases z) (ne d _ q)];exact q
      ·rw [i d (x d _ q λps z=>by cases z) (ne d _ q)];exact q
  have hsz:s.heap.objs.size<=h'.objs.size:=w1t (Nat.lt_of_le_of_lt j K);have gX:T < s.heap.objs.size:=wL D;refine h h'.objs.size c' ct ((X.mg "__name__").getD .none) _ _ (λb o n e=>by rw [i b n (ne b _ e)];exact e) ⟨zj,oc,vs,t,by rw [zn O,zj],hd,S⟩ (l.pins_of λp hp=> ?_);rcases wx.mp hp with hp | hp
  ·exact l.pin p (wF _ hp)
  ·rw [wu.mp hp];refine⟨qc _ rfl,?_,QF (wT I.lt hsz),I.nofs hsz,λv z=>by cases z⟩
   show upd (upd H c' (.frz oc (.own 0))) T (.tbl #[rawInt lp.line,rawInt lp.col,.ref c']) h'.objs.size=none
   rw [i _ (QF (wT gX hsz)) (QF K)];exact I.hok.fresh hsz
 ·have D:s.heap.get? T=some (PySem.W.tabObj #[rawInt lp.line,rawInt lp.col,.ref c']):=I.hok T _ a;refine PySem.W.kla_makeFunctionHit (ps:= #[rawInt lp.line,rawInt lp.col,.ref c']) (cv:= .ref c') (kS M) I.ok.glob J hc (C.keeps I.bk) D (by simp [TriplesOk,rawInt]) (by simp [codeAmong,rawInt]) L λct h' tk G hsz=> ?_
  have l:Inv X pins σ H {s with heap:=h'.push (z3V X params body scope ((X.mg "__name__").getD .none) c' ct),toks:=tk}:=I.kept λb o e=>wm _ (G b o e)
  refine h h'.objs.size c' ct ((X.mg "__name__").getD .none) H _ Kp.refl ⟨a,oc,vs,t,h2,h3,Y⟩ (l.pins_of λp hp=> ?_);rcases wx.mp hp with hp | hp
  ·exact l.pin p (wF _ hp)
  ·rw [wu.mp hp];exact⟨qc _ rfl,I.hok.fresh hsz,QF (wT I.lt hsz),I.nofs hsz,λv z=>by cases z⟩
end
noncomputable def codeTabIn(K:W.Frag)(T:Addr):Bool:=K.any λp=>PySem.W.codeHdIn K p.1 T
noncomputable def codeOf(K:W.Frag)(cd:Value)(T:Addr):Bool:=match cd with
 | .ref c=>PySem.W.codeHdIn K c T
 | _=>false
variable{K:W.Frag}
theorem codeOf_ex{cd:Value}(h:codeOf K cd T=true):∃c,cd= .ref c/\PySem.W.codeHdIn K c T=true:=by
 unfold codeOf at h;split at h
 ·exact⟨_,rfl,h⟩
 ·cases h
theorem z7l{h:Heap}(X:K.In h)(e:codeTabIn K T=true):∃c,PySem.W.CodeHd h c T:=by
 obtain⟨p,_,hp⟩:=w14.mp e;exact⟨p.1,PySem.W.codeHd_of_K X hp⟩
variable{Ts:List Addr}
theorem z9h{mg mb:Str->Option Value}{CX:CXT}{k:Nat}{C a:Addr}{c:Shared}{vs:List Value}{ns:List Int}
  (I:K.In c.heap) (D:c.heap.Ns mainGlobals mg) (f:c.heap.Ns builtinsNs mb) (Z:∀x:Str,x≠"__name__"->mb x=bootBuiltins x) (nE:c.heap.NoLimit) (U:c.gens= #[])
  (vh:∃j i,mg "__builtins__"=some (.ref j)/\j≠builtinsNs/\c.heap.get? j=some i/\i.cls= .type "module"/\i.dict=some builtinsNs/\i.data= .plain)
  (p:∀T∈Ts,c.heap.get? T=some (PySem.W.tabObj #[])) (X:∀T∈Ts,isCodeTable c.heap T) (i5:∀T∈Ts,K.lookup T=none)
  (ha:c.heap.get? a=some {cls:= .type "list",data:= .seq vs.toArray}) (hi:IntsAre vs ns) (hl:ns.length<=sizeLine) (hr:Room k callerA)
  (F:∀base:Heap,K.In base->base.Ns mainGlobals mg->(∀T∈Ts,base.BuiltinsAt mg T)->FnOk P w K mg base CX k C fd [x] sp) (S:∀(s:Shared) (u:Value),BindsTo s fd ⟨[u],[]⟩ [(x,u)])
  (ao:∀H:Hp,SqL K H a (ns.map V.int)->(∀T∈Ts,H T=some (.tbl #[]))->sp [.ref a] H (λv _=>v= .bl true) λ_ _ _=>False)
  (vi:∀H e s',CX [] H c (λ_ _ _=>False) e s'->False):
  codeAny (model P w) callerA (.call (.ref C) ⟨[.ref a],[]⟩) (λr s'=>r= .ok (.ret (.bool true))/\OldK c.heap s'.heap/\s'.os=c.os/\AllBare s'.gens) c:=by
 have J:=z58 hi;have Q:=hi.length;have aT:a∉Ts:=λz=>by
  have:=p a z;rw [ha]at this;cases this
 have core:∀H:Hp,(∀b,H b=none\/(b∈Ts/\H b=some (.tbl #[]))\/(b=a/\K.lookup a=none/\H b=some (.frz {cls:= .type "list",data:= .seq vs.toArray} (.lst (ns.map V.int)))))->SqL K H a (ns.map V.int)->(∀T∈Ts,H T=some (.tbl #[]))->
   codeAny (model P w) callerA (.call (.ref C) ⟨[.ref a],[]⟩) (λr s'=>r= .ok (.ret (.bool true))/\OldK c.heap s'.heap/\s'.os=c.os/\AllBare s'.gens) c:=by
  intro H y hS vk;have hok:HOk P w H c.heap:=λb u e=>by
   rcases y b with z | ⟨m,z⟩ | ⟨rfl,_,z⟩
   ·rw [z]at e;cases e
   ·rw [z]at e;cases e;exact p b m
   ·rw [z]at e;cases e;exact⟨ha,by rw [w9];exact hl,vs,_,J,ha⟩
  have G:∀{b:Addr} {o:Obj},c.heap.get? b=some o->H b=none->(z4H c.heap H).get? b=some o:=λe n=>zag e n
  have O:∀{b:Addr} {o:Obj},c.heap.get? b=some o->(∀xs n,o.data≠ .seq xs n)->(∀xs,o.data≠ .fields xs)->H b=none:=λ{b o} e d1 d2=>by
   rcases y b with z | ⟨m,_⟩ | ⟨rfl,_,_⟩
   ·exact z
   ·have:=p b m;rw [e]at this;cases this;exact absurd rfl (d2 _)
   ·rw [ha]at e;cases e;exact absurd rfl (d1 _ _)
  have eC:∀{b:Addr} {o:Obj} {es:Array DictEntry} {ep:Nat},c.heap.get? b=some o->o.data= .dict es ep->H b=none:=λ{b o es ep} e d=>O e (λxs n z=>by rw [d]at z;cases z) λxs z=>by rw [d]at z;cases z
  have A:∀{b:Addr} {m:Str->Option Value},c.heap.Ns b m->(z4H c.heap H).Ns b m:=λ{b m} ⟨o,es,ep,e,d,r⟩=>⟨o,es,ep,G e (eC e d),d,r⟩
  have L:K.In (z4H c.heap H):=λb o e=>G (I b o e) (by
   rcases y b with z | ⟨m,_⟩ | ⟨rfl,z,_⟩
   ·exact z
   ·rw [i5 b m]at e;cases e
   ·rw [z]at e;cases e)
  have Y:Mod K mg (z4H c.heap H):=⟨L,A D,⟨mb,A f,Z⟩,let ⟨mc,h1,h2⟩:=nE;⟨mc,A h1,h2⟩⟩;have R:∀T∈Ts,(z4H c.heap H).BuiltinsAt mg T:=λT m=>by
   obtain⟨j,i,b1,b2,t,b4,b5,l⟩:=vh;refine⟨j,i,b1,b2,λz=> ?_,λz=> ?_,G t (O t (λxs n q=>by rw [l]at q;cases q) λxs q=>by rw [l]at q;cases q),b4,b5,l⟩
   ·obtain⟨o,es,ep,e,d,_⟩:=D;rw [z,e]at t;cases t;rw [l]at d;cases d
   ·have:=p T m;rw [<-z,t]at this;cases this;cases l
  have e0:Env0 P w K mg (z4H c.heap H) callerA [] c H:=⟨rfl,Y,λb o e=>zc4 e,Nat.le_of_eq (z9p _ _),trivial,λb f=>absurd (show b∈([]:List Addr)from f) (by simp),hok,.of_eq U⟩;refine w0p ((F _ L (A D) R).run callerA [] c H ⟨[.ref a],[]⟩ [.ref a] [.ref a] _ _ hr e0 (S c (.ref a)) (.cons rfl .nil) (ao H hS vk)) λr s' h=> ?_
  cases r with
  | error e=>exact(vi H e s' h).elim
  | ok fl=>
   cases fl with
   | next=>exact False.elim h
   | brk=>exact False.elim h
   | cont=>exact False.elim h
   | ret u=>
    obtain⟨v,H',os,bare,un,N,r',q⟩:=h;have q':v= .bl true:=q;subst q';obtain rfl:u=Value.bool true:=r';have at':∀b o,c.heap.get? b=some o->s'.heap.get? b=some o\/(b∈Ts/\o=PySem.W.tabObj #[]/\∃more,s'.heap.get? b=some (PySem.W.tabObj more)):=λb o e=>by
     rcases y b with z | ⟨m,z⟩ | ⟨rfl,_,z⟩
     ·exact .inl (un.keep b o e z (by intro z;exact absurd (show b∈([]:List Addr)from z) (by simp)) (by simp))
     ·obtain⟨more,B⟩:=un.tbls b _ z;have E:s'.heap.get? b=some (PySem.W.tabObj (#[] ++ more)):=N b _ B;have M:=p b m;rw [e]at M;exact .inr ⟨m,Option.some.inj M,_,E⟩
     ·have B:=un.frzs b _ _ z;obtain⟨E,_⟩:=N b _ B;rw [ha]at e;cases e;exact .inl E
    refine⟨rfl,⟨λb o e=> ?_,λb o e=> ?_⟩,os,bare⟩
    ·rcases at' b o e with z | ⟨m,rfl,more,z⟩
     ·exact .inl z
     ·exact .inr (.inl ⟨X b m,rfl,#[],more,rfl,by rw [Array.empty_append];exact z⟩)
    ·rcases at' b o e with z | ⟨m,rfl,more,z⟩
     ·exact⟨_,z⟩
     ·exact⟨_,z⟩
 cases hk:K.lookup a with
 | some o=>
  have e:=I a o hk;rw [ha]at e;cases e;refine core (λb=>if b∈Ts then some (.tbl #[])else none) (λb=> ?_) (.inr ⟨_,vs.toArray,_,hk,rfl,rfl,rfl,by rw [wy,Q];exact hl,by simpa using J⟩) λT m=>wU m
  by_cases m:b∈Ts
  ·exact .inr (.inl ⟨m,wU m⟩)
  ·exact .inl (wM m)
 | none=>
  refine core (λb=>if b∈Ts then some (.tbl #[])else if b=a then some (.frz {cls:= .type "list",data:= .seq vs.toArray} (.lst (ns.map V.int)))else none) (λb=> ?_) (.inl (.inr ⟨{cls:= .type "list",data:= .seq vs.toArray},(wM aT).trans (wU rfl)⟩)) λT m=>wU m
  by_cases m:b∈Ts
  ·exact .inr (.inl ⟨m,wU m⟩)
  ·by_cases f:b=a
   ·exact .inr (.inr ⟨f,hk,(wM m).trans (wU f)⟩)
   ·exact .inl ((wM m).trans (wM f))
theorem walk_ofT{l:PySem.W.OpenLaw}{n k:Nat}{q:Program}{loose:List Str}{B:(Str->Option Value)->Heap->Prop}{r:World->Heap->Prop}{d:DefRec}{K:Params->W.Frag}{sp:World->Sp}
  (hn:l.most=some n) (I:n<=sizeLine) (D:d.params.defaults= []) (hr:Room k callerA)
  (L:∀(w:World) (h:Heap),r w h->(K w.params).In h/\∀T∈Ts,h.get? T=some (PySem.W.tabObj #[]))
  (N:∀(w:World),∀T∈Ts,codeTabIn (K w.params) T=true) (y:∀(w:World),∀T∈Ts,(K w.params).lookup T=none)
  (F:∀(w:World) (mg:Str->Option Value) (j:Addr) (h:Heap),(K w.params).In h->h.Ns mainGlobals mg->mg d.name=some (.ref j)->
   ∃fd:FuncData,(∀(s:Shared) (u:Value),BindsTo s fd ⟨[u],[]⟩ [(x,u)])/\
    ∀base:Heap,(K w.params).In base->base.Ns mainGlobals mg->(∀T∈Ts,base.BuiltinsAt mg T)->FnOk l.prog w (K w.params) mg base CX0 k j fd [x] (sp w))
  (O:∀(w:World) (H:Hp) (a:Addr) (ns:List Int),ns.length<=n->SqL (K w.params) H a (ns.map V.int)->(∀T∈Ts,H T=some (.tbl #[]))->sp w [.ref a] H (λv _=>v= .bl true) λ_ _ _=>False):
  PySem.W.WalkO q loose B r l.row.toRowW d [] (λf vs=>PySem.call f vs):=by
 refine Att.attach_call hn D λw s₀ R mg mb j o pm cd aR a vs ns G Y S hd Q J E hints hlen M=> ?_
 obtain⟨p,i⟩:=L w _ Y;obtain⟨fd,A,P⟩:=F w mg j _ p G.T.g J;exact z9h p G.T.g G.T.b G.T.builtins G.T.nolimit M G.T.bmain i (λT m=>by
  obtain⟨c,C⟩:=z7l p (N w T m);exact(C.tab (i T m)).isCodeTable) (y w) E hints (wV hlen I) hr P A (λH t i=>O w H a ns hlen t i) λH e s' z=>z
end L2

namespace L2
open PySem PySem.Spec PyProof.Rows
theorem z6Y:∀{xs:List V} {us:List Value},zP xs us->zP xs.reverse us.reverse
 | _,_,.nil=> .nil
 | _,_,.cons r t=>by rw [QM,QM];exact(z6Y t).append (.cons r .nil)
variable{l:Addr}{items:Array Value}
section
variable{prog:Program}{w:World}{A:Around}{E:Value->Shared->Prop}{s:Shared}{r:Addr}
theorem z6a:typeLookup (.type "list_reverseiterator") "__len__"=pure none:=by rw [typeLookup_type,builtinLookup_eq_fast];kernel_rfl
theorem z4V:typeLookup (.type "list_reverseiterator") "__length_hint__"=pure (some (.builtin "list_reverseiterator.__length_hint__")):=by rw [typeLookup_type,builtinLookup_eq_fast];kernel_rfl
theorem z9L{Q:Bool->Shared->Prop}(c:s.TypeIs (.ref r) "list_reverseiterator")(h:Q false s):wpAny (model prog w) A (Builtin.List.listLengthHint (.ref r)) Q E s:=by
 unfold Builtin.List.listLengthHint;refine wz (wpAny_specialOf c z6a ?_)
 wp_delta
 refine w1l (λa=>absurd a (by decide)) (λ_=> ?_);refine wz (wpAny_specialOf c z4V ?_);generalize hid:("list_reverseiterator.__length_hint__":String)=id0
 wp_delta
 rw [show splitId id0=some ("list_reverseiterator","__length_hint__")from by subst hid;decide +kernel];subst hid;refine wz (wpAny_isInstance (T:="list_reverseiterator") (b:=true) c (by rw [isSubtype_type];kernel_rfl) ?_);refine w1l (λa=>absurd a (by decide)) (λ_=> ?_);refine w1l (λ_=> ?_) (λa=>absurd (by decide +kernel) a);refine w1l (λa=>absurd a (by decide +kernel)) (λ_=> ?_);exact wZ h
theorem z7b{R:Result->Shared->Prop}(L:A.handled=none)(c:s.heap.IsRevIter r l ((items.size:Int) - 1))(hl:s.heap.IsList l items)(G:l≠r)(S:Addr)(y:S≠r)(C:S≠l)(res:Value)(q:Nat)(j:s.heap.get? S=some {cls:= .type "list",data:= .seq #[] q})
  (N:∀h' tk d c',(∀b o,b≠S->b≠r->s.heap.get? b=some o->h'.get? b=some o)->h'.get? S=some {cls:= .type "list",dict:=none,data:= .seq d c',slots:= #[]}->ItemsOf (λi v=>items[items.size - 1 - i]? =some v) d items.size->R (.ok (.ret res)) {s with heap:=h',toks:=tk}) (hn:items.size<=sizeLine):
  wpAny (model prog w) A.in1 (Builtin.List.listExtendWith (.ref S) (.ref r) res)
   (λfin s'=>match fin with | .done f=>R (.ok f) s' | .again c'=>c'.quiet=true/\codeAny (model prog w) A c' R s') (λe s'=>R (.error e) s') s:=by
 have t:S∉ [r,l]:=by simp only [wE,qf,Qu,not_or];exact⟨y,C⟩
 have W:=Walks.listRev (prog:=prog) (w:=w) (A:=A.in1) L r l G items;unfold Builtin.List.listExtendWith;refine wz (wpAny_typeOf (T:="list_reverseiterator") c.typeIs ?_);have h1:Builtin.List.listSameRef (.ref S) (.ref r)=false:=by simp [Builtin.List.listSameRef,y]
 have z:(Value.type "list_reverseiterator" == Value.type "list")=false:=by decide
 have K:(Value.type "list_reverseiterator" == Value.type "tuple")=false:=by decide
 simp only [h1,z,K,Bool.or_false,Bool.false_eq_true,w0v];have H:(items.size:Int) - 1 - ((0:Nat):Int)=(items.size:Int) - 1:=by lia
 have st:0<=items.size/\s.heap.IsRevIter r l ((items.size:Int) - 1 - ((0:Nat):Int))/\s.heap.IsList l items:=⟨qY _,by rw [H];exact c,hl⟩;have key:∀(h:Heap) (n tk:Nat),(0<=items.size/\h.IsRevIter r l ((items.size:Int) - 1 - ((0:Nat):Int))/\h.IsList l items)->(∀b o,b≠S->s.heap.get? b=some o->h.get? b=some o)->
   h.get? S=some {cls:= .type "list",data:= .seq #[] n}->codeAny (model prog w) A (.builtin "list.extend.loop" ⟨[.ref S,.ref r,res],[]⟩) R {s with heap:=h,toks:=tk}:=by
  intro h n tk D I M;refine codeAny_extend_loopS W.toS hn S t res items.size 0 _ #[] n rfl (qY _) D M (ItemsOf.nil _) λs' d c' hm E B=> ?_
  rw [Moved.eq_with hm];refine N s'.heap s'.toks d c' (λb o a p e=>hm.heap b o (λaN=> ?_) (I b o a e)) E B;rcases wE.mp aN with O | aN
  ·exact a O
  ·exact p (wu.mp aN)
 refine wz (wpAny_pyIter_revIter c ?_);refine wz (QP (z9L c.typeIs ?_));refine w1l (λ_=> ?_) (λ_=>wZ ⟨plainId_quiet PySem.F.plain_extend_loop _,key _ q _ st (λb o _ e=>e) j⟩);refine wz (wpAny_rule ?_);refine wz ?_
 show wpAny _ _ (updateSeq S (·.push .none) >>= λ_=>updateSeq S (·.pop)) _ _ _
 refine wz (wpAny_updateSeq j rfl ?_);have u:=w0Q (Obj.mapSeq (·.push Value.none)) j rfl;refine wpAny_updateSeq (hz:=by seq_fits) u rfl ?_;have J:=w0Q (Obj.mapSeq (·.pop)) u rfl;refine wZ ⟨plainId_quiet PySem.F.plain_extend_loop _,key _ _ _ ?_ (λb o a e=> ?_) J⟩
 ·refine W.frame 0 _ _ st λb a o e=> ?_
  have x:b≠S:=λh=>t (h ▸ a)
  exact(Q2 _ _ (w1h x)).trans ((Q2 _ _ (w1h x)).trans e)
 ·exact(Q2 _ _ (w1h a)).trans ((Q2 _ _ (w1h a)).trans e)
theorem za8{Q:Value->Shared->Prop}(B:A.handled=none)(h:s.heap.IsRevIter r l ((items.size:Int) - 1))(hl:s.heap.IsList l items)(y:l≠r)(hn:items.size<=sizeLine)
  (D:∀h' tk c c',(∀b o,b≠r->s.heap.get? b=some o->h'.get? b=some o)->h'.get? s.heap.objs.size=some {cls:= .type "list",dict:=none,data:= .seq c c',slots:= #[]}->ItemsOf (λi v=>items[items.size - 1 - i]? =some v) c items.size->Q (.ref s.heap.objs.size) {s with heap:=h',toks:=tk}):
  wpAny (model prog w) A (call (.type "list") [.ref r]) Q E s:=by
 refine callType_codes (Q₁:=λobj j=>obj= .ref s.heap.objs.size/\j={s with heap:=s.heap.push {cls:= .type "list",data:= .seq #[]}}) PySem.F.called_list (PySem.F.typeCall_list_1 _) PySem.F.entry_list_init
  (code_list_new _ ⟨rfl,rfl⟩) λobj j G=> ?_
 obtain⟨rfl,rfl⟩:=G;have a:(s.heap.push {cls:= .type "list",data:= .seq #[]}).get? s.heap.objs.size=some {cls:= .type "list",data:= .seq #[]}:=qc _ rfl;have n:r < s.heap.objs.size:=let ⟨o,ho,_⟩:=h;wL ho
 have p:l < s.heap.objs.size:=let ⟨o,ho,_⟩:=hl;wL ho
 refine⟨⟨_,a,rfl⟩,PySem.F.args_list_init_2 _ _,?_⟩
 show wpAny _ _ (do let u<-Builtin.List.listItems (.ref s.heap.objs.size);Builtin.List.listUpdate (.ref s.heap.objs.size) (λ_=> #[]);letGo u.toList.reverse;Builtin.List.listExtendWith (.ref s.heap.objs.size) (.ref r) .none) _ _ _
 refine wz ?_;unfold Builtin.List.listItems;refine wz (wpAny_seqItems a rfl (wZ ?_))
 show wpAny _ _ (updateSeq s.heap.objs.size (λ_=> #[]) >>= λ_=>letGo (#[]:Array Value).toList.reverse >>= λ_=>Builtin.List.listExtendWith (.ref s.heap.objs.size) (.ref r) .none) _ _ _
 refine wz (wpAny_updateSeq a rfl ?_);have C:=w0Q (Obj.mapSeq (λ_=>(#[]:Array Value))) a rfl;have f:∀b o,b≠s.heap.objs.size->s.heap.get? b=some o->((s.heap.push {cls:= .type "list",data:= .seq #[]}).update s.heap.objs.size (Obj.mapSeq (λ_=>(#[]:Array Value)))).get? b=some o:=
  λb o t e=>(Q2 _ _ (w1h t)).trans (wm _ e)
 refine wz (wpAny_letGo ?_);refine z7b (A:=A.in1) B (h.at λo e=>f r o (q5 n) e) (hl.at λo e=>f l o (q5 p) e) y _ (QF n) (QF p) .none _ C (λh' tk c c' z x q=> ?_) hn;exact⟨rfl,D h' tk c c' (λb o d e=>z b o (q5 (wL e)) d (f b o (q5 (wL e)) e)) x q⟩
end
section
variable{X:Cx}{e:Expr}{te:TE}{p p' pos pos':Pos}
def zae(K:W.Frag)(te:TE):TE:=λσ H Q=>te σ H λx H1=>∃l xs,x= .ref l/\SqL K H1 l xs/\∀r,H1 r=none->Q (.ref r) (upd H1 r (.lst xs.reverse))
theorem z7x(F:X.calm=true)(L:Gl X "list")(G:X.mg "list"=none)(t:Gl X "reversed")(J:X.mg "reversed"=none)(w:PE X e te)
  (hs:starEach [.Call (.Name "reversed" p') [e] [] pos'] X.env= [(false,eval (.Call (.Name "reversed" p') [e] [] pos') X.env)]:=by rfl) (f:starEach [e] X.env= [(false,eval e X.env)]:=by rfl):
  PE X (.Call (.Name "list" p) [.Call (.Name "reversed" p') [e] [] pos'] [] pos) (zae X.K te):=by
 intro pins s σ H Q I h;refine Ql (z1q I L G qF ?_ (by decide) (by decide));refine Q3 (by
  rw [hs];refine QU ?_;refine Ql (z1q I t J PyProof.Rows.boot_reversed ?_ (by decide) (by decide));refine Q3 (by
   rw [f];refine QU (thn (w pins s σ H _ I h) ?_);rintro u s1 ⟨x,H1,c,r1,l,xs,ex,hq,q⟩;refine w0X ?_;subst ex;cases r1;obtain⟨a6,d,pl,hz⟩:=c.list hq;have hlen:=d.length;refine call_reversed_list pl.isList ?_;refine w0X ?_;have A:l≠s1.heap.objs.size:=by
    obtain⟨o,E,_⟩:=pl.isList;exact q5 (wL E)
   have D:(s1.heap.push (revObj l ((a6.toArray.size:Int) - 1))).IsList l a6.toArray:=pl.isList.at λo e=>wm _ e
   refine za8 (s:={s1 with heap:=s1.heap.push (revObj l ((a6.toArray.size:Int) - 1))}) (c.ok.hd F) ⟨_,qc _ rfl,rfl,rfl⟩ D A (by rw [wy];lia) λh' tk a c' C r y=> ?_
   have hsz:(s1.heap.push (revObj l ((a6.toArray.size:Int) - 1))).objs.size=s1.heap.objs.size + 1:=Qg ..;have kp:∀b o,s1.heap.get? b=some o->h'.get? b=some o:=λb o e=>C b o (q5 (wL e)) (wm _ e)
   have M:a.toList=a6.reverse:=by
    obtain⟨i,B⟩:=y;refine List.ext_getElem? λj=> ?_
    by_cases hj:j < a6.length
    ·have n:j < a.size:=by rw [i,wy];exact hj
     have:=B j a[j] (Array.getElem?_eq_getElem n);rw [Array.getElem?_toList,Array.getElem?_eq_getElem n,List.getElem?_reverse hj,<-this];simp
    ·rw [List.getElem?_eq_none (by rw [w0E,i,wy];lia),List.getElem?_eq_none (by rw [w0g];lia)]
   have z:zP xs.reverse a.toList:=by rw [M];exact z6Y d
   refine⟨.ref _,upd H1 _ (.lst xs.reverse),c.laid (t':=tk) kp (by rw [hsz];exact Nat.le_succ _) ⟨by rw [w0g];exact hz,a.toList,c',z,?_⟩,rfl,q _ (c.hok.fresh (by rw [hsz];exact Nat.le_succ _))⟩;rw [r,Array.toArray_toList]) (by rw [f];rfl) (by rw [show starEach ([]:List Expr) X.env= []from rfl];rfl)) (by rw [hs];rfl) (by rw [show starEach ([]:List Expr) X.env= []from rfl];rfl)
end
end L2

namespace L2
open PySem PySem.Spec PyProof.Rows
variable{t':Nat}{ch:List Addr}
section
variable{X:Cx}{pins:List (Addr×Obj)}{σ:St}{H:Hp}{s:Shared}{h':Heap}
theorem Inv.turnedL(I:Inv X pins σ H s)(k:∀b o,b∉ch->s.heap.get? b=some o->h'.get? b=some o)(a:∀b∈ch,z3w X pins H b):Inv X pins σ H {s with heap:=h',toks:=t'}:=by
 have d:∀b u,H b=some u->b∉ch:=λb u e z=>by rw [(a b z).1]at e;cases e
 refine I.step (g':=s.gens) (d':=s.drawn) (ch:=ch) (λb f=> ?_) (λb o _ _ hc e _=>k b o hc e) (λb o _ _ hc e _=>⟨o.slots,k b o hc e⟩) (λ_ _ _ _ n=>n)
  (λb o hc e=>⟨o,k b o hc e⟩) (λ_ _ e=>e) (λ_ _ _ e=>e) (λb ps e=>⟨#[],by rw [e];simp⟩) (λm hm=> ?_) (λb u e=> ?_) I.bare
 ·obtain⟨_,f1,_,j,l,h⟩:=a b f;exact⟨j,f1,l,h⟩
 ·obtain⟨o,es,ep,i,r⟩:=hm;exact⟨o,es,ep,k _ o (λz=>(a _ z).2.1 rfl) i,r⟩
 ·refine(I.hok b u e).stay (λc v hc q=>k c v ?_ q) (λ_ q=>q) λ_ _ q=>q
  rcases hc with z | z
  ·rw [z];exact d b u e
  ·exact d c _ z
theorem Inv.turnedLaid{a:Addr}{o:HO}(I:Inv X pins σ H s)(k:∀b o,b∉ch->s.heap.get? b=some o->h'.get? b=some o)(f:∀b∈ch,z3w X pins H b)(hp:s.heap.objs.size<=a)
  (new:jj X.prog X.w (upd H a o) h' a o):Inv X pins σ (upd H a o) {s with heap:=h',toks:=t'}:=by
 have h:∀b u,H b=some u->b∉ch:=λb u e z=>by rw [(f b z).1]at e;cases e
 have hn:H a=none:=I.hok.fresh hp;refine I.step (g':=s.gens) (d':=s.drawn) (ch:=ch) (λb d=> ?_) (λb o _ _ hc e _=>k b o hc e) (λb o _ _ hc e _=>⟨o.slots,k b o hc e⟩) (λb u _ q n=>by rw [zn (q5 (wT (wL q) hp))];exact n)
  (λb o hc e=>⟨o,k b o hc e⟩) (λb xs e=>by rw [zn (zy e hn)];exact e) (λb _ _ e=>by rw [zn (zy e hn)];exact e) (λb ps e=>⟨#[],by rw [zn (zy e hn),e];simp⟩) (λm hm=> ?_) (λb u e=> ?_) I.bare
 ·obtain⟨_,f1,_,l,p,i⟩:=f b d;exact⟨l,f1,p,i⟩
 ·obtain⟨o,es,ep,j,r⟩:=hm;exact⟨o,es,ep,k _ o (λz=>(f _ z).2.1 rfl) j,r⟩
 ·by_cases d:b=a
  ·subst d;rw [zj]at e;cases e;exact new
  ·rw [zn d]at e;refine(I.hok b u e).stay (λc v hc q=>k c v ?_ q) (λc q=> ?_) λc xs q=> ?_
   ·rcases hc with z | z
    ·rw [z];exact h b u e
    ·exact h c _ z
   ·rw [zn (zy q hn)];exact q
   ·rw [zn (zy q hn)];exact q
end
end L2

namespace L2
open PySem
def zeu(σ:St):Prop:=∃b a,σ= [b,a]
theorem zd7{X:Cx}{scope:Scope}{x y:Str}{fr:List Str}{ix:List Nat}{px py tp:Pos}{k:Nat}(hc:X.calm=true)(S:CompScG X scope [x,y] fr ix)(b:scope.names.lookup x=some .local)(c:scope.names.lookup y=some .local)(C:Addr)(cells:List (Str×Addr))(s₀:Shared)(H₀:Hp)(ex:List Addr)(pins:List (Addr×Obj)):
  PG (zY X scope ([x,y] ++ fr) C cells s₀ H₀ ex pins) (.Tuple [.Name x px,.Name y py] k tp) (zdF X.K 2 (z6F (z1H 0) (z6F (z1H 1) zdv))):=by
 have a:(zY X scope ([x,y] ++ fr) C cells s₀ H₀ ex pins).env.scope.names.lookup x=some .local:=yq (env:=X.env) b;have ly:(zY X scope ([x,y] ++ fr) C cells s₀ H₀ ex pins).env.scope.names.lookup y=some .local:=yq (env:=X.env) c;exact z9Q (X:=zY X scope ([x,y] ++ fr) C cells s₀ H₀ ex pins) hc (z2T (z0J (i:=0) S.nd rfl (.inl a) (.inr a)) (z2T (z0J (i:=1) S.nd rfl (.inl ly) (.inr ly)) z8y))
end L2

namespace L2
open PySem PySem.Spec PyProof.Rows
structure ExcCls(K:W.Frag)(D:Addr):Prop where
 ga:PySem.W.findIn K (.ref D) "__getattribute__"=some (some (.builtin "BaseException.__getattribute__"))
 gt:PySem.W.findIn K (.ref D) "__getattr__"=some none
 be:PySem.W.subIn K (.ref D) (.type "BaseException")=some true
 hc:(PySem.W.clsIn K D).isSome=true
 ha:PySem.W.findIn K (.ref D) "__class__"=some (some (.builtin "object.__class__"))
 hn:PySem.W.specialIn K (.builtin "object.__class__") "__get__"=some (some (.builtin "getset_descriptor.__get__"))
 ht:PySem.W.takesIn K (.builtin "object.__class__")=some true
 hm:PySem.W.mroIn K D (.type "object")=some true
section
variable{X:Cx}
theorem zcL{pins:List (Addr×Obj)}{s:Shared}{σ:St}{H:Hp}{i:Nat}{x:Str}{v:V}{pos:Pos}{Q:Value->Shared->Prop}(I:Inv X pins σ H s)(d:X.N[i]? =some x)(b:Vis X.env.scope x)(e:σ[i]? =some (some v))(h:∀u,RelV v u->Q u s)
  (hd:(x == ("__debug__":Str))=false:=by decide) (a:(x == ("__classdict__":Str))=false:=by decide):wpAny (model X.prog X.w) X.A (eval (.Name x pos) X.env) Q X.xe s:=by
 obtain⟨m,hn,hl⟩:=I.loc;obtain⟨u,r,l⟩:=hl i x v d e b;have fin:=h u r;rcases l with⟨hk,hm⟩ | ⟨hk,c,hc,aG⟩
 ·exact wpAny_Name (wpAny_loadName_local I.ok.kind hk hn hm fin) hd
 ·rcases hk with hk | hk
  ·exact wpAny_Name (wpAny_loadName_cell I.ok.kind hk hc aG fin) hd
  ·exact wpAny_Name (wpAny_loadName_free I.ok.kind hk hc aG fin a) hd
end
end L2

namespace L2
open PySem PySem.Spec PyProof.Rows
abbrev SpS:=List Env->Shared->Sp
structure FnOkS(P:Program)(w:World)(K:W.Frag)(mg:Str->Option Value)(base:Heap)(CX:CXT)(k:Nat)(f:Addr)(fd:FuncData)(ps:List Str)(sp:SpS):Prop where
 len:∀outer s vs H Q E,sp outer s vs H Q E->vs.length=ps.length
 run:∀(A:Around) (outer:List Env) (s:Shared) (H:Hp) (args:Args) (us:List Value) (vs:List V) (Q:VK) (E:XK),Room k A->Env0 P w K mg base A outer s H->BindsTo s fd args (ps.zip us)->zP vs us->sp outer s vs H Q E->
  codeAny (model P w) A (.call (.ref f) args) (CR CX outer P w H s Q E) s
variable{P:Program}{w:World}{mg:Str->Option Value}{base:Heap}{CX:CXT}{f:Addr}{sp:SpS}
section
variable{K:W.Frag}
theorem Fun.okS{x qual:Str}{st:Stmt}{fd:FuncData}{N ps:List Str}{k:Nat}(F:Fun K x qual st f fd)(S:FnScope N ps (zm st))(len:∀outer s vs H Q E,sp outer s vs H Q E->vs.length=ps.length)
  (B:∀(ac:Value) (A:Around) (outer:List Env) (s:Shared) (H:Hp) (vs:List V) (Q:VK) (E:XK),Room k (A.deeper (envOfC qual (zm st) s.heap.objs.size f ac))->sp outer s vs H Q E->
   ∃t,PSs (z38 CX P w K mg base N qual (zm st) f ac A outer s H E) (ym st) t/\t {nx:=λ_ H'=>Q .non H',rt:=Q} (start N vs) H):FnOkS P w K mg base CX (k + 1) f fd ps sp:=by
 obtain⟨oc,od,kV,aR,pm,an,ac,ct,cu,rfl,i,z⟩:=F.ex;refine⟨len,λA outer s H args us vs Q E hr a l r d=> ?_⟩;have hl:=len _ _ _ _ _ _ d;have h:K.In s.heap:=a.mod.kin.keeps λb o e=>(a.bs b o e).1
 have p:s.heap.NoLimit:=a.mod.nolimit.keeps λb o e=>(a.bs b o e).1
 have G:∀y∈ps.zip us,(zm st).names.lookup y.1=some .local\/((zm st).names.lookup y.1=some .cell/\((cellsFrom (s.heap.objs.size + 1) (zm st).names []).lookup y.1).isSome=true):=λ⟨n,v⟩ C=>by
  rcases S.par n (List.of_mem_zip C).1 with q | q
  ·exact .inl q
  ·exact .inr ⟨q,PySem.W.cellsFrom_some _ _ _ (.inl q)⟩
 refine codeAny_call_function hr.depth (h _ _ i) rfl S.co S.gen rfl (PySem.W.codeRec_of h z) (l _ _ _ _ ?_);refine wpAny_newFunctionEnv_cells S.kind G λenv j s1 x=> ?_
 subst j;refine⟨p.keeps x.toInCall.keep,codeAny_func ?_⟩;obtain⟨t,ht,hq⟩:=B ac A outer s H vs Q E (hr.deeper _) d;have I:Inv (z38 CX P w K mg base N qual (zm st) f ac A outer s H E) [] (start N vs) H s1:=z53 S hr.hd a hl r x;refine QK (ht [] s1 (start N vs) H _ I hq) (λD s' hs=> ?_) λe s' hs=>hs
 have fin:∀{σ':St} {H':Hp} {v:V} {u:Value},Inv (z38 CX P w K mg base N qual (zm st) f ac A outer s H E) [] σ' H' s'->RelV v u->Q v H'->CE outer P w H s Q u s':=
  λ{σ' H' v u} J c q=>⟨v,H',J.os,J.bare,J.base,J.hok,c,q⟩
 cases D with
 | ret u=>obtain⟨v,σ',H',J,c,q⟩:=hs;exact fin J c q
 | next=>obtain⟨σ',H',J,q⟩:=hs;exact fin (v:=V.non) (u:=Value.none) J rfl q
 | brk=>obtain⟨_,_,_,q⟩:=hs;exact False.elim q
 | cont=>obtain⟨_,_,_,q⟩:=hs;exact False.elim q
end
structure KnS(P:Program)(w:World)(K:W.Frag)(mg:Str->Option Value)(base:Heap)(CX:CXT)(k:Nat)(x:Str)(ps:List Str)(sp:SpS):Prop where
 ex:∃(f:Addr) (fd:FuncData),FnOkS P w K mg base CX k f fd ps sp/\mg x=some (.ref f)/\PySem.W.keepIn K (.ref f)=true/\Binds K fd ps []
structure WorkOk(P:Program)(w:World)(K:W.Frag)(mg:Str->Option Value)(base:Heap)(CX:CXT)(k:Nat)(fs:List Addr)(H:Hp)(s:Shared)(lf:Addr)(sp:Sp):Prop where
 here:∀(s':Shared) (H':Hp),Un fs [] H H' s.heap s'.heap->PySem.W.FnAt lf s'.heap
 run:∀(A:Around) (outer:List Env) (s':Shared) (H':Hp) (us:List Value) (vs:List V) (Q:VK) (E:XK),Room k A->Env0 P w K mg base A outer s' H'->Un fs [] H H' s.heap s'.heap->zP vs us->sp vs H' Q E->
  codeAny (model P w) A (.call (.ref lf) ⟨us,[]⟩) (CR CX outer P w H' s' Q E) s'
noncomputable abbrev cxW(CX:CXT)(P:Program)(w:World)(K:W.Frag)(mg:Str->Option Value)(base:Heap)(A:Around)(outer:List Env)(qual:Str)(scope:Scope)(N:List Str)(f:Addr)(cd:Value)(cells:List (Str×Addr))(s:Shared)(H:Hp)(E:XK):Cx:=
 {prog:=P,w:=w,K:=K,mg:=mg,base:=base,A:=A.deeper (PySem.W.envX qual scope s.heap.objs.size f cd cells),N:=N,s₀:=s,H₀:=H,env:=PySem.W.envX qual scope s.heap.objs.size f cd cells,outer:=outer,
  stack:=PySem.W.envX qual scope s.heap.objs.size f cd cells :: outer,ex:= [],fn:=λ_=>false,calm:=true,pn:= [],
  xe:=λe s'=>wpAny (model P w) (A.deeper (PySem.W.envX qual scope s.heap.objs.size f cd cells)) (leaving (PySem.W.envX qual scope s.heap.objs.size f cd cells) e) (λ_ a=>CX outer H s E e a) (λb a=>CX outer H s E b a) s'}
structure LamSc(scope:Scope)(a b y:Str):Prop where
 kind:scope.kind= .function
 co:scope.isCoroutine=false
 gen:scope.isGenerator=false
 la:scope.names.lookup a=some .local
 lb:scope.names.lookup b=some .local
 ly:scope.names.lookup y=some .free
 nd: [a,b,y].Nodup
 nc:∀z∈scope.names,z.2≠ .cell
 only:∀z∈scope.names,z.2= .free->z.1=y
variable{scope:Scope}{s:Shared}{H:Hp}{E:XK}
theorem zaR{K:W.Frag}{A:Around}{outer:List Env}{qual:Str}{a b y:Str}{j:Addr}{cd:Value}{h1:Heap}{tk:Nat}{v1 v2 tv:V}{r t B:Value}
  (S:LamSc scope a b y) (G:A.handled=none) (l:Env0 P w K mg base A outer s H) (r1:RelV v1 r) (r2:RelV v2 t) (r3:RelV tv B) (hc:s.heap.IsCell j (some B)) (I:H j=none)
  (D:h1.Ns s.heap.objs.size (λz=> [(a,r),(b,t)].reverse.lookup z)) (u:∀b o,s.heap.get? b=some o->h1.get? b=some o):
  Inv (cxW CX P w K mg base A outer qual scope [a,b,y] f cd [(y,j)] s H E) [] [some v1,some v2,some tv] H {s with heap:=h1,toks:=tk}:=by
 have F:a≠b:=by have:=S.nd;simp at this;exact this.1.1
 have look:∀z c,([(y,j)]:List (Str×Addr)).lookup z=some c->z=y/\c=j:=λz c e=>by
  rw [qC]at e;split at e
  ·rename_i q;exact⟨eq_of_beq q,(Option.some.inj e).symm⟩
  ·cases e
 have C:∀d:Addr,d∉(cxW CX P w K mg base A outer qual scope [a,b,y] f cd [(y,j)] s H E).ex:=λd z=>absurd (show d∈([]:List Addr)from z) (by simp)
 refine⟨⟨l.mod,S.kind,rfl,rfl,ww _,λx z c h1 h2=>(look x c h1).1.trans (look z c h2).1.symm,λx hx=> ?_,λx c z _=>absurd z wQ,λ_=>G,Around.frames_deeper l.frames,.inr ⟨rfl,rfl⟩,λb z=>absurd z (C b),l.bs,l.bsz,λb _ _=>C b,λb z=>absurd z (C b),l.funs,l.frf⟩,
  rfl,l.bare,Un.kept u,⟨_,D,λi x v' h1 h2 J=> ?_⟩,λx c h=> ?_,l.hok.fresh (ww _),λx c h=> ?_,λp hp=>absurd (show p∈([]:List (Addr×Obj))from hp) (by simp),l.hok.kept u,rfl⟩
 ·have hx:scope.names.lookup x=some .cell\/scope.names.lookup x=some .free:=hx;rcases hx with hx | hx
  ·exact absurd rfl (S.nc _ (Qd hx))
  ·have:x=y:=S.only _ (Qd hx) rfl;subst this;exact⟨j,by show([(x,j)]:List (Str×Addr)).lookup x=some j;simp⟩
 ·match i,h1,h2 with
  | 0,h1,h2=>
   cases (show a=x from Option.some.inj h1);cases (show some v1=some v' from Option.some.inj h2);refine⟨r,r1,.inl ⟨S.la,?_⟩⟩
   show([(b,t),(a,r)]:List (Str×Value)).lookup a=some r
   rw [qC,show(a == b)=false from by simpa using F];simp
  | 1,h1,h2=>
   cases (show b=x from Option.some.inj h1);cases (show some v2=some v' from Option.some.inj h2);refine⟨t,r2,.inl ⟨S.lb,?_⟩⟩
   show([(b,t),(a,r)]:List (Str×Value)).lookup b=some t
   simp
  | 2,h1,h2=>
   cases (show y=x from Option.some.inj h1);cases (show some tv=some v' from Option.some.inj h2);exact⟨B,r3,.inr ⟨.inr S.ly,j,by show([(y,j)]:List (Str×Addr)).lookup y=some j;simp,hc.keeps u⟩⟩
  | n + 3,h1,_=>cases h1
 ·obtain⟨_,rfl⟩:=look x c h;exact⟨_,hc.keeps u⟩
 ·obtain⟨_,rfl⟩:=look x c h;exact I
section
variable{X:Cx}{pins:List (Addr×Obj)}{σ:St}{k:Nat}{T c:Addr}{lp:Pos}{params:Arguments}{body:Expr}{a b y:Str}{j:Nat}{tv:V}{tb:XK->TE}
theorem za6{pm ct:Value}(I:Inv X (pins ++ [(f,z3V X params body scope pm c ct)]) σ H s)(R:z87 H T lp (X.env.qual ++ "<lambda>") c)(S:LamSc scope a b y)(x:X.env.kindOf y=some .cell\/X.env.kindOf y=some .free)(hN:X.N[j]? =some y)(hσ:σ[j]? =some (some tv))
  (bt:z01 X.env scope.names []= [(y,(X.env.cells.lookup y).getD 0)])
  (Y:∀(pm ct n p:Value) (c:Addr),bindArgs (PySem.W.kla_fn "<lambda>" (X.env.qual ++ "<lambda>") params body scope (z01 X.env scope.names []) pm (.ref c) ct) ⟨[n,p],[]⟩=pure [(a,n),(b,p)])
  (hb:∀A outer f cd d s H E,Room k (A.deeper (PySem.W.envX (X.env.qual ++ "<lambda>") scope s.heap.objs.size f cd [(y,d)]))->PE (cxW CX X.prog X.w X.K X.mg X.base A outer (X.env.qual ++ "<lambda>") scope [a,b,y] f cd [(y,d)] s H E) body (tb E)):
  WorkOk X.prog X.w X.K X.mg X.base CX (k + 1) (frs X.stack) H s f (λvs H Q E=>∃v1 v2,vs= [v1,v2]/\tb E [some v1,some v2,some tv] H Q):=by
 obtain⟨L,M,_⟩:=I.pin _ (wF _ (wF _ (wu.mpr rfl)));obtain⟨d,B⟩:=I.ok.has y x;obtain⟨m,hn,hl⟩:=I.loc;obtain⟨O,rt,P⟩:=hl j y tv hN hσ (by
  rcases x with q | q
  ·exact .inr (.inl q)
  ·exact .inr (.inr q))
 have D:s.heap.IsCell d (some O):=by
  rcases P with⟨q,_⟩ | ⟨_,c',e',z⟩
  ·rcases x with z | z
   ·rw [q]at z;cases z
   ·rw [q]at z;cases z
  ·rw [B]at e';cases e';exact z
 have G:H d=none:=I.freeC y d B;have nH:z01 X.env scope.names []= [(y,d)]:=by rw [bt,B];rfl
 refine⟨λs' H' un=> ?_,λA outer s' H' us vs Q E hr l un r C=> ?_⟩
 ·obtain⟨sl,e⟩:=un.any L M (by simp);exact⟨_,_,_,_,e⟩
 ·obtain⟨v1,v2,rfl,C⟩:=C;obtain⟨n,p,rfl,r1,r2⟩:=vals2 r;obtain⟨sl,e⟩:=un.any L M (by simp);have fS:s'.heap.IsCell d (some O):=by
   obtain⟨o,u,hd⟩:=D;obtain⟨sl,e⟩:=un.any u G (by simp);exact⟨_,e,hd⟩
  have nI:H' d=none:=by
   obtain⟨o,u,_⟩:=D;exact un.free d o u G (by simp)
  have fP:s'.heap.CodeRec (.ref c) (X.env.qual ++ "<lambda>"):=by
   obtain⟨_,oc,vs,t,h2,h3,Z⟩:=R;obtain⟨e,_⟩:=l.hok c _ (un.frzs _ _ _ h2);exact⟨c,oc,vs,t,rfl,e,h3,Z⟩
  have gW:s'.heap.NoLimit:=l.mod.nolimit.keeps λb o e=>(l.bs b o e).1
  refine PySem.W.kla_callFunE hr.depth e rfl S.co S.gen rfl fP ?_;have F:=Y pm ct n p c;dsimp only at F ⊢;rw [F];refine wZ (wpAny_newFunctionEnv S.nc (λz hz=> ?_) (λh1 dA i=>⟨?_,?_⟩) S.kind)
  ·simp only [wE,qf,Qu]at hz;rcases hz with rfl | rfl
   ·exact S.la
   ·exact S.lb
  ·exact gW.fresh _ i
  ·have hk:∀b o,s'.heap.get? b=some o->h1.get? b=some o:=λb o e=>i.extBut b o (q5 (wL e)) (wm _ e)
   have I1:=zaR (CX:=CX) (qual:=X.env.qual ++ "<lambda>") (f:=f) (cd:= .ref c) (E:=E) (tk:=s'.toks + 2) S hr.hd l r1 r2 rt fS nI dA hk
   show codeAny _ _ (.expr body (PySem.W.envX (X.env.qual ++ "<lambda>") scope s'.heap.objs.size f (.ref c) (z01 X.env scope.names []))) _ _
   rw [nH];refine PySem.W.kla_codeExpr (QK (hb A outer f (.ref c) d s' H' E (hr.deeper _) [] _ _ H' Q I1 C) (λw s2 hq=> ?_) λe s2 z=>z);obtain⟨v,H2,J,U,q⟩:=hq;exact⟨v,H2,J.os,J.bare,J.base,J.hok,U,q⟩
def zaI(X:Cx)(CX:CXT)(k:Nat)(T:Addr)(lp:Pos)(q:Str)(j:Nat)(tb:XK->TE)(sp:SpS)(E:XK)(te:TE):TE:=λσ H Q=>te σ H λv H1=>z1z H1 T lp q/\∃tv,σ[j]? =some (some tv)/\
 ∀(lf c:Addr) (H2:Hp) (s2:Shared),Kp T H1 H2->z87 H2 T lp q c->WorkOk X.prog X.w X.K X.mg X.base CX (k + 1) (frs X.stack) H2 s2 lf (λvs H Q E=>∃v1 v2,vs= [v1,v2]/\tb E [some v1,some v2,some tv] H Q)->sp X.stack s2 [v,.ref lf] H2 Q E
theorem z7u{D:Nat}{F:Str}{ps:List Str}{p pos:Pos}{e:Expr}{te:TE}(C:KnS X.prog X.w X.K X.mg X.base CX D F ps sp)(hx:z1e CX X E)(hr:Room D X.A)(U:Gl X F)(he:PE X e te)(hc:X.env.code= .ref c)(hC:PySem.W.CodeHd X.base c T)(B:X.base.BuiltinsAt X.mg T)
  (S:LamSc scope a b y) (o:X.env.kindOf y=some .cell\/X.env.kindOf y=some .free) (hN:X.N[j]? =some y)
  (hb:∀A outer f cd t s H E,Room k (A.deeper (PySem.W.envX (X.env.qual ++ "<lambda>") scope s.heap.objs.size f cd [(y,t)]))->PE (cxW CX X.prog X.w X.K X.mg X.base A outer (X.env.qual ++ "<lambda>") scope [a,b,y] f cd [(y,t)] s H E) body (tb E))
  (Y:z01 X.env scope.names []= [(y,(X.env.cells.lookup y).getD 0)]:=by rfl)
  (P:∀(pm ct G M:Value) (c:Addr),bindArgs (PySem.W.kla_fn "<lambda>" (X.env.qual ++ "<lambda>") params body scope (z01 X.env scope.names []) pm (.ref c) ct) ⟨[G,M],[]⟩=pure [(a,G),(b,M)]:=by intro _ _ _ _ _;rfl)
  (fO:defaultsOf params X.env=([],[]):=by rfl) (O:(F == ("__debug__":Str))=false:=by decide)
  (x:starEach [e,.Lambda params body scope lp] X.env=(false,eval e X.env) :: starEach [.Lambda params body scope lp] X.env:=by rfl) (dC:starEach [.Lambda params body scope lp] X.env= [(false,eval (.Lambda params body scope lp) X.env)]:=by rfl) (R:(backTo pos (starEach [.Lambda params body scope lp] X.env)).any (·.1)=false:=by rfl):
  PE X (.Call (.Name F p) [e,.Lambda params body scope lp] [] pos) (zaI X CX k T lp (X.env.qual ++ "<lambda>") j tb sp E te):=by
 obtain⟨f0,fd,n,hm,hk,Z⟩:=C.ex;intro pins s σ H Q I h;refine Ql (z2O I U hm ?_ O);refine w0N (h₀:=X.base) I.ok.mod.kin hk ?_ x R;rw [x,dC]
 show wpAny _ _ (spliced [(false,eval e X.env),(false,eval (.Lambda params body scope lp) X.env)]) _ _ s
 refine QU (thn (he pins s σ H _ I h) ?_);rintro u s1 ⟨v,H1,I1,r1,hL,tv,hσ,q⟩;refine QU ?_;refine zaU I1 hc hC B hL fO (λz hz i=>by rw [S.only z hz i];exact o) λf c' ct pm H2 s2 gC l d=>w0X ⟨d.kIn,?_⟩
 have W:=za6 (CX:=CX) (k:=k) d l S o hN hσ Y P hb;have L:=q f c' H2 s2 gC l W;have hl:=n.len _ _ _ _ _ _ L;have rv:zP [v,.ref f] [u,.ref f]:= .cons r1 (.cons rfl .nil);have aF:([u,Value.ref f] ++ ([]:List Value)).length=ps.length:=hl;have bd:=Z s2 [u,.ref f] d.kIn aF;rw [Qb]at bd;refine w1x (w0p (n.run X.A X.stack s2 H2 ⟨[u,.ref f],[]⟩ [u,.ref f] [v,.ref f] Q E hr d.env0 bd rv L) λr s' hq=> ?_);cases r with
 | error e=>exact hx _ σ H2 s2 e s' d hq
 | ok fl=>
  cases fl with
  | ret u=>
   obtain⟨v',H',J,dB,q'⟩:=d.after hq;exact⟨v',H',J.pins_of λp hp=>J.pin p (wF _ (qe _ hp)),dB,q'⟩
  | next=>exact False.elim hq
  | brk=>exact False.elim hq
  | cont=>exact False.elim hq
end
end L2

namespace L2
open PySem PySem.Spec PyProof.Rows
noncomputable def once(ks:List Str):List Str:=ks.foldl (λa k=>if k∈a then a else a ++ [k]) []
theorem z1X(ks:List Str)(k:Str):once (ks ++ [k])=if k∈once ks then once ks else once ks ++ [k]:=by
 unfold once;rw [List.foldl_append]
 rfl
theorem snoc_ind{α:Type}{P:List α->Prop}(h0:P [])(h1:∀l a,P l->P (l ++ [a]))(l:List α):P l:=by
 have:∀l:List α,P l.reverse:=λl=>by
  induction l with
  | nil=>exact h0
  | cons a r b=>rw [QM];exact h1 _ _ b
 have:=this l.reverse
 rwa [List.reverse_reverse]at this
theorem z2F{k:Str}(ks:List Str):k∈once ks↔k∈ks:=by
 refine snoc_ind (P:=λks=>k∈once ks↔k∈ks) (by unfold once;simp) (λl a b=> ?_) ks;rw [z1X];split
 ·rename_i h;rw [wx,b];refine⟨.inl,λz=>z.elim id λz=> ?_⟩;rw [wu.mp z]at b ⊢;exact b.mp h
 ·rw [wx,wx,b]
theorem z8C(ks:List Str):(once ks).length<=ks.length:=by
 refine snoc_ind (P:=λks=>(once ks).length<=ks.length) (by unfold once;simp) (λl a b=> ?_) ks;rw [z1X];split <;> simp only [wb,wD] <;> lia
theorem z7L(ks:List Str):(once ks).length=ks.length↔ks.Nodup:=by
 refine snoc_ind (P:=λks=>(once ks).length=ks.length↔ks.Nodup) (by unfold once;simp) (λl a b=> ?_) ks;have f:=z8C l;rw [z1X];split
 ·rename_i h;rw [z2F]at h;refine⟨λz=> ?_,λz=> ?_⟩
  ·rw [wb,wD]at z;lia
  ·exact absurd rfl ((QL.mp z).2.2 a h a (wu.mpr rfl))
 ·rename_i h;rw [z2F]at h;rw [wb,wb];refine⟨λz=> ?_,λz=> ?_⟩
  ·have:=b.mp (by simpa using z);exact QL.mpr ⟨this,by simp,λx c y d e=>h (by rw [wu.mp d]at e;rw [<-e];exact c)⟩
  ·rw [b.mpr (QL.mp z).1]
variable{ks:List Str}
section
variable{prog:Program}{w:World}{A:Around}
noncomputable abbrev tk(prog:Program)(w:World):=PySem.strKind prog w
theorem zaF{R:Result->Shared->Prop}{I:Addr}{fp a:List Addr}{G:Array GenState->Array GenState->Prop}{n:Nat}{y:Nat->Value->Prop}{St:Nat->Shared->Prop}(W:WalksS prog w A.in1 I fp a G n y St){S:Addr}(j:S∉fp)(hn:ks.length=n)
  (D:∀i v,y i v->∃t,v= .str (ks.getD i "") t) (M:n + 1 < scanBound):∀(k i:Nat) (s:Shared),n - i=k->i<=n->St i s->s.heap.SetOf (tk prog w) S (λx=>decide (x∈ks.take i)) (once (ks.take i)).length->
   (∀s',Moved (S :: a) G s s'->s'.heap.SetOf (tk prog w) S (λx=>decide (x∈ks)) (once ks).length->R (.ok (.ret .none)) s')->codeAny (model prog w) A (.builtin "set.update.loop" ⟨[.ref S,.ref I],[]⟩) R s:=by
 have sub:∀b∈a,b∈S :: a:=λb z=> .tail _ z
 have K:S∉a:=λz=>j (W.sub _ z)
 have p:∀{s s':Shared} {g:Str->Bool} {m:Nat},Moved a G s s'->s.heap.SetOf (tk prog w) S g m->s'.heap.SetOf (tk prog w) S g m:=λhm ⟨o,es,ep,t,J,z⟩=>⟨o,es,ep,t,hm.heap S _ K J,z⟩
 intro k;induction k with
 | zero=>
  intro i s E hi st d fin;obtain rfl:i=n:=by lia
  rw [Qo (by lia)]at d;refine codeAny_builtin PyProof.Rows.F.entry_set_update_loop (by
   rw [Around.under_plainId w08 _];exact wz (W.done s _ _ st λs' hm=>wZ (fin s' (hm.mono sub) (p hm d))))
 | succ k H=>
  intro i s E hi st d fin;have u:i < ks.length:=by lia
  refine codeAny_builtin PyProof.Rows.F.entry_set_update_loop (by
   rw [Around.under_plainId w08 _];refine wz (W.item i s _ _ (by lia) st λv s' hp L hm=> ?_);obtain⟨t,rfl⟩:=D i v hp;have C:=p hm d;have room:(once (ks.take i)).length + 1 < scanBound:=by
    have h1:=z8C (ks.take i);rw [wS]at h1
    lia
   have r:ks.getD i ""=ks[i]:=by rw [wo,wa u];rfl
   have l:ks.take (i + 1)=ks.take i ++ [ks[i]]:=by rw [q9,wa u];rfl
   refine wz (QP (QP (wz ((tk prog w).pyHash (k:=ks[i]) (v:= .str (ks.getD i "") t) ?_ ?_))))
   ·rw [r];exact strKind_is _ _ _ _
   refine wpAny_setAddHashed_of (knd:=tk prog w) (k:=ks[i]) ?_ rfl C room λh' c f=> ?_
   ·rw [r];exact strKind_is _ _ _ _
   have B:h'.SetOf (tk prog w) S (λx=>decide (x∈ks.take (i + 1))) (once (ks.take (i + 1))).length:=by
    refine PyProof.Rows.SetOf_congr f (λx=> ?_) ?_
    ·show(decide (x∈ks.take i) || decide (x=ks[i]))=_
     rw [l,<-Bool.decide_or];exact w15.mpr (by rw [wx,wu])
    ·rw [l,z1X];by_cases hm:ks[i]∈ks.take i
     ·rw [wU (by simpa using hm),wU ((z2F _).mpr hm)]
     ·rw [wM (by simpa using hm),wM (λz=>hm ((z2F _).mp z)),wb];rfl
   refine wZ ⟨plainId_quiet w08 _,H (i + 1) _ (by lia) (by lia) (W.frame _ s' _ _ L (Nat.le_succ _) λb z o e=> ?_) B λs2 h=> ?_⟩
   ·rw [c.2 b λq=>j (q ▸ z)];exact e
   ·refine fin s2 (Moved.trans W.gtrans ((hm.mono sub).then_heap (Nat.le_succ _) λb o z e=> ?_) h);rw [c.2 b λq=>z (q ▸ .head _)];exact e)
noncomputable abbrev newSet(a:Bool):Obj:={cls:= .type "set",dict:=none,data:= .set #[] 0 (.fresh 0 0 a)}
set_option maxHeartbeats 3200000 in
theorem z8R{E:Value->Shared->Prop}{s:Shared}{l:Addr}{items:List Value}{Q:Value->Shared->Prop}(O:A.handled=none)(hl:s.heap.IsList l items.toArray)(hi:zP (ks.map V.str) items)(f:ks.length + 1 < scanBound)
  (h:∀(h':Heap) (j:Nat),h'.SetOf (tk prog w) s.heap.objs.size (λx=>decide (x∈ks)) (once ks).length->(∀b o,b < s.heap.objs.size->s.heap.get? b=some o->h'.get? b=some o)->Q (.ref s.heap.objs.size) {s with heap:=h',toks:=j}):
  wpAny (model prog w) A (call (.type "set") [.ref l]) Q E s:=by
 have hlen:items.length=ks.length:=by rw [<-hi.length,w9]
 obtain⟨c,tl,vt⟩:=w0T.mro;have a1:=w0T.made;have a2:=w0T.sub;have Z:=w0T.notType;have a4:=w0T.canCreate;have U:=F.typeCall_set_1 (.ref l);refine w1x (codeAny_of_tree (wZ ⟨Code.quiet_builtin _ (by decide +kernel),codeAny_builtin F.entry_type_call ?_⟩));rw [Around.under_plain (weight_type_call_type "set" [.ref l] []) rfl]
 repeat (any_goals (first | assumption | wp_step))
 refine w0p (code_set_new_1 (.ref l) (E:=E) (Q₁:=λo s1=>∃a:Bool,o= .ref s.heap.objs.size/\s1={s with heap:=s.heap.push {cls:= .type "set",dict:=none,data:= .set #[] 0 (.fresh 0 0 a)}}) λa=>⟨a,rfl,rfl⟩) λr s1 hr=> ?_
 rcases r with e | (_ | _ | _ | o)
 ·exact hr
 ·exact hr
 ·exact hr
 ·exact hr
 ·obtain⟨a,rfl,rfl⟩:=hr;have B:(s.heap.push (newSet a)).get? s.heap.objs.size=some (newSet a):=qc _ rfl;have N:Shared.TypeIs {s with heap:=s.heap.push (newSet a)} (.ref s.heap.objs.size) "set":=⟨_,B,rfl⟩;have b1:=w0T.init.lookup;have b2:=w0T.init.bind (.ref s.heap.objs.size)
  repeat (any_goals (first | assumption | wp_step))
  refine w0p (codeAny_call_builtin (R:=wants (λr s2=>r= .none/\∃h' j,s2={s with heap:=h',toks:=j}/\h'.SetOf (tk prog w) s.heap.objs.size (λx=>decide (x∈ks)) (once ks).length/\∀b o,b < s.heap.objs.size->s.heap.get? b=some o->h'.get? b=some o) E)
   w0T.init.plain F.entry_set_init (check_set_init_1 N ?_)) λr2 s2 d=> ?_
  ·obtain⟨⟨oc,od,Y,os⟩,D,H,G,y⟩:=hl;simp only at H y;subst H y;have M:(s.heap.push (newSet a)).get? l=some {cls:= .type "list",dict:=od,data:= .seq items.toArray G,slots:=os}:=wm _ D;have c2:=F.sub_list_set;have X:=F.sub_list_frozenset;have c4:(Value.type "list" == Value.type "dict")=false:=by decide
   have q:(s.heap.push (newSet a)).IsList l items.toArray:=⟨_,M,rfl,G,rfl⟩;unfold Builtin.«set.__init__» noKeywords Builtin.Frozenset.updateFrom;generalize hPI:pyIter=PI
   wp_walk
   subst hPI;have d1:l < s.heap.objs.size:=wL D;have d2:A.in1.in1.in1.handled=none:=by simp [O]
   have p:(s.heap.push (newSet a)).objs.size=s.heap.objs.size + 1:=Qg _ _;refine wpAny_pyIter_list q (wz (wpAny_runValue ?_));refine zaF (ks:=ks) (S:=s.heap.objs.size) ((Walks.list d2 _ l (by rw [p];exact q5 (Q5 d1)) items.toArray).toS) (λz=>(wE.mp z).elim (λe=>absurd (e.trans p) (q5 (w0m _))) λz=>absurd (wu.mp z) (QF d1)) (by simp [hlen]) (λi v z=> ?_) (by simp [hlen];exact f) _ 0 _ rfl (qY _) ⟨⟨_,qc _ rfl,rfl,rfl⟩,q.push _⟩ ?_ ?_
   ·have C:items[i]? =some v:=by simpa using z
    have I:i < ks.length:=by rw [<-hlen];exact(we.mp C).1
    obtain⟨u,J,K⟩:=hi.get (show(ks.map V.str)[i]? =some (.str ks[i]) by rw [wO,wa I];rfl);rw [C]at J;cases J;obtain⟨t,rfl⟩:=K;exact⟨t,by rw [wo,wa I];rfl⟩
   ·have T:=wm (h:=s.heap.push (newSet a)) {cls:= .type "list_iterator",data:= .fields #[.ref l,.int 0 0]} B;exact PyProof.Rows.SetOf_congr ((PyProof.Rows.setObjOf_fresh (knd:=tk prog w) a).setOf T (by unfold scanBound;lia)) (λ_=>by simp) (by unfold once;rfl)
   ·intro s' hm n;obtain⟨h',g',d',t',P⟩:=s';obtain rfl:g'=s.gens:=hm.gens;obtain rfl:d'=s.drawn:=hm.drawn;obtain rfl:P=s.os:=hm.os;refine wZ (wZ ⟨rfl,h',t',rfl,n,λb o f e=> ?_⟩);refine hm.heap b o ?_ (wm _ (wm _ e));exact λz=>(wE.mp z).elim (q5 f) λz=>absurd ((wu.mp z).trans p) (q5 (Q5 f))
  ·rcases r2 with e | (_ | _ | _ | o)
   ·exact d
   ·exact d
   ·exact d
   ·exact d
   ·obtain⟨rfl,h',j,rfl,n,L⟩:=d
    repeat (any_goals (first | assumption | wp_step))
    exact h _ _ n L
end
end L2

namespace L2
open PySem PySem.Spec PyProof.Rows
def zde(P:Program)(w:World)(a:Addr)(n:Nat)(h:Heap):Prop:=∃S,h.SetOf (tk P w) a S n
variable{X:Cx}{P:Program}{w:World}
theorem z9H{K:W.Frag}(x:X.prog=P)(n:X.w=w)(p:X.K=K)(hc:X.calm=true):yZ X (.type "set") (λxs H Q=>∃l ks,xs= [.ref l]/\SqL K H l (ks.map V.str)/\ks.length<=1000/\∀a,H a=none->Q (.ref a) (upd H a (.ext (zde P w a (once ks).length)))):=by
 subst x n p;intro pins s σ H xs us Q I r h;obtain⟨l,ks,rfl,hl,hn,q⟩:=h;obtain⟨u,rfl,f⟩:=r.one;cases (show u=Value.ref l from f);obtain⟨a6,d,pl,hz⟩:=I.list hl;refine z8R (ks:=ks) (I.ok.hd hc) pl.isList d (by unfold scanBound;lia) λh' t' c j=> ?_
 have i:∀b o,s.heap.get? b=some o->h'.get? b=some o:=λb o e=>j b o (wL e) e
 refine⟨.ref _,_,I.laid i (ww _) ?_,rfl,q _ I.fresh⟩;refine⟨⟨_,c⟩,?_,λh1 h2 ⟨S,o,es,ep,t,e,z⟩ k=>⟨S,o,es,ep,t,k o e,z⟩⟩;obtain⟨o,es,ep,t,e,_⟩:=c;exact⟨o,e⟩
theorem z6M(j:X.prog=P)(d:X.w=w):yZ X (.builtin "len") (λxs H Q=>∃a n,xs= [.ref a]/\H a=some (.ext (zde P w a n))/\Q (.int (n:Nat)) H):=by
 subst j d;intro pins s σ H xs us Q I r h;obtain⟨a,n,rfl,ha,q⟩:=h;obtain⟨u,rfl,c⟩:=r.one;cases (show u=Value.ref a from c);obtain⟨⟨S,o,es,ep,t,e,f,hd,_,_,b,i,hn⟩,_,_⟩:=(show jj X.prog X.w H s.heap a (.ext (zde X.prog X.w a n))from I.hok a _ ha);refine call_len_set e f hd i (by unfold scanBound at b;lia) ?_;exact⟨.int n,H,I.tok _,⟨_,by rw [hn]⟩,q⟩
def zbi:V->List V->Hp->VK->Prop:=λx vs H Q=>∃l xs y,x= .ref l/\vs= [.int 0,y]/\H l=some (.lst xs)/\xs.length < sizeLine/\Q .non (upd H l (.lst (y :: xs)))
theorem z9q:MtM X "list.insert" zbi:=by
 intro pins s σ H x vs v us Q I f b h;obtain⟨l,xs,y,rfl,rfl,a,hz,q⟩:=h;cases f;obtain⟨i,u,rfl,r0,c⟩:=vals2 b;obtain⟨d,rfl⟩:=r0;obtain⟨z,a6,n,r,hl,e⟩:=I.lstM a;refine call_meets F.slot_list_insert ⟨_,e,rfl⟩ F.entry_list_insert (F.args_list_insert_3 _ _ _) (PySem.AutoSeq1.list_insert_list_int_val_1 l a6.toArray n 0 d u (by decide) (by rw [wy];lia)) ⟨e,?_⟩;refine⟨.non,_,I.lset (its':=u :: a6) a e (by simp) (.cons c r) ?_,rfl,q⟩;rw [wJ]
 lia
def zbg(K:W.Frag):R2:=λx y H Q=>∃a b xs ys,x= .ref a/\y= .ref b/\SqL K H a xs/\SqL K H b ys/\xs.all yM=true/\ys.all yM=true/\Q (.bl (!eqL xs ys)) H
theorem z8V{K:W.Frag}(z:X.K=K)(E:X.A.units + 1 < cLine):OpR X (compareOp .NotEq) (zbg K):=by
 subst z;intro pins s σ H x y v u Q I C l h;have i:X.A.units < cLine:=by lia
 obtain⟨a,b,xs,ys,rfl,rfl,ha,n,p,D,q⟩:=h;cases C;cases l;obtain⟨a6,r,pl,hz⟩:=I.list ha;obtain⟨F,r2,f,_⟩:=I.list n;have l1:=r.length;have l2:=r2.length;by_cases hl:xs.length=ys.length
 ·refine SeqAt.RcNeAt.lists (e:=λj=>eqV (xs.getD j .non) (ys.getD j .non)) pl.isList f.isList (by rw [wy,wy];lia) i (λj h1 h2=> ?_) _ _ _ _ ⟨.bl (!eqL xs ys),H,I,?_,q⟩
  ·rw [wy]at h1;have d:xs[j]? =some xs[j]:=wa (by lia);have c:ys[j]? =some ys[j]:=wa (by lia);obtain⟨w1,w,t⟩:=r.get d;obtain⟨w2,o,B⟩:=r2.get c;rw [QZ,QZ,(we.mp w).2,(we.mp o).2,wo,wo,d,c];exact z5K t B (qH.mp p _ (qD d)) (qH.mp D _ (qD c))
  ·show Value.bool _=Value.bool _
   rw [eqL,wN hl,w0Y,wy,<-l1]
 ·refine SeqAt.RcNeAt.lists_lengths pl.isList f.isList ?_ i _ _ _ _ ⟨.bl (!eqL xs ys),H,I,?_,q⟩
  ·rw [wy,wy,bne_iff_ne,<-l1,<-l2];exact hl
  ·show Value.bool true=Value.bool _
   rw [eqL,wI hl,w11];rfl
def zdI{tg e:Expr}{w1 w2:TI}(h1:PI X tg e w1)(h2:PI X tg e w2):PI X tg e (λσ H R=>w1 σ H R\/w2 σ H R):=λpins s σ H R I h=>h.elim (h1 pins s σ H R I) (h2 pins s σ H R I)
end L2

namespace L2
open PySem PySem.Spec PyProof.Rows
noncomputable def hid(H:Hp)(d:Addr):Hp:=λb=>if b=d then none else H b
variable{H:Hp}{d:Addr}
theorem jt{b:Addr}(h:b≠d):hid H d b=H b:=wM h
theorem yE:hid H d d=none:=wU rfl
theorem ku{o:HO}(h:H d=none):hid (upd H d o) d=H:=by
 funext b
 by_cases e:b=d
 ·subst e;rw [yE,h]
 ·rw [jt e,zn e]
theorem z1I{b:Addr}(h:H b=none):hid H d b=none:=by
 unfold hid;split
 ·rfl
 ·exact h
section
variable{X:Cx}{pins:List (Addr×Obj)}{σ:St}{H2:Hp}{s s':Shared}{xs:List V}
theorem Inv.hide(I:Inv X pins σ H s)(hd:H d=some (.lst xs)):Inv X pins σ (hid H d) s:=by
 have nd:∀{b:Addr} {o:HO},H b=some o->(∀ys,o≠ .lst ys)->hid H d b=some o:=λ{b o} e n=>by
  rw [jt (λz=>by rw [z,hd]at e;cases e;exact n _ rfl)];exact e
 refine⟨I.ok,I.os,I.bare,⟨I.base.keep,I.base.slot,λb o e n a=>z1I (I.base.free b o e n a),I.base.there,λb ys e=>nd (I.base.tups b ys e) (by intro _ z;cases z),λb o u e=>nd (I.base.frzs b o u e) (by intro _ z;cases z),λb ps e=> ?_⟩,
  I.loc,I.cell,z1I I.free,λx c e=>z1I (I.freeC x c e),λp hp=> ?_,λb u e=> ?_,I.len⟩
 ·obtain⟨more,z⟩:=I.base.tbls b ps e;exact⟨more,nd z (by intro _ z;cases z)⟩
 ·obtain⟨a1,a2,f⟩:=I.pin p hp;exact⟨a1,z1I a2,f⟩
 ·have nb:b≠d:=λz=>by rw [z,yE]at e;cases e
  rw [jt nb]at e;exact(I.hok b u e).stay (λc v _ q=>q) (λc q=>nd q (by intro _ z;cases z)) λc ys q=>nd q (by intro _ z;cases z)
theorem Inv.readopt(J:Inv X pins σ H2 s')(I:Inv X pins σ H s)(hd:H d=some (.lst xs))(h2:H2 d=none)(new:jj X.prog X.w (upd H2 d (.lst xs)) s'.heap d (.lst xs)):Inv X pins σ (upd H2 d (.lst xs)) s':=by
 have ne:∀{b:Addr},H b=none->b≠d:=λ{b} e z=>by rw [z,hd]at e;cases e
 have a:∀{b:Addr} {o:HO},H2 b=some o->upd H2 d (.lst xs) b=some o:=λ{b o} e=>by rw [zn (λz=>by rw [z,h2]at e;cases e)];exact e
 refine⟨J.ok,J.os,J.bare,⟨J.base.keep,J.base.slot,λb o e n f=> ?_,J.base.there,λb ys e=>a (J.base.tups b ys e),λb o u e=>a (J.base.frzs b o u e),λb ps e=> ?_⟩,
  J.loc,J.cell,?_,λx c e=> ?_,λp hp=> ?_,λb u e=> ?_,J.len⟩
 ·rw [zn (ne (I.base.free b o e n f))];exact J.base.free b o e n f
 ·obtain⟨more,z⟩:=J.base.tbls b ps e;exact⟨more,a z⟩
 ·rw [zn (ne I.free)];exact J.free
 ·rw [zn (ne (I.freeC x c e))];exact J.freeC x c e
 ·obtain⟨a1,a2,h⟩:=J.pin p hp;exact⟨a1,by rw [zn (ne (I.pin p hp).2.1)];exact a2,h⟩
 ·by_cases hb:b=d
  ·subst hb;rw [zj]at e;cases e;exact new
  ·rw [zn hb]at e;exact(J.hok b u e).stay (λc v _ q=>q) (λc q=>a q) λc ys q=>a q
def zc0(i:Nat)(lf:Addr)(sp:Sp)(E:XK)(t:TA):TE:=λσ H Q=>σ[i]? =some (some (.ref lf))/\t σ H λvs H1=>∃d xs,H1 d=some (.lst xs)/\sp vs (hid H1 d) (λv H2=>H2 d=none->Q v (upd H2 d (.lst xs))) E
theorem z9w{CX:CXT}{k i:Nat}{lf:Addr}{sp:Sp}{E:XK}{x:Str}{p pos:Pos}{e:Expr}{es:List Expr}{t:TA}(W:WorkOk X.prog X.w X.K X.mg X.base CX k X.fs X.H₀ X.s₀ lf sp)(O:z1e CX X E)(nJ:X.ex= [])(hr:Room k X.A)(hN:X.N[i]? =some x)(T:Vis X.env.scope x)(ha:PA X (e :: es) t)
  (hd:(x == ("__debug__":Str))=false:=by decide) (P:(x == ("__classdict__":Str))=false:=by decide) (G:starEach (e :: es) X.env=(false,eval e X.env) :: starEach es X.env:=by rfl) (Y:(backTo pos (starEach es X.env)).any (·.1)=false:=by rfl):
  PE X (.Call (.Name x p) (e :: es) [] pos) (zc0 i lf sp E t):=by
 intro pins s σ H Q I h;obtain⟨h1,h⟩:=h;refine Ql (zcL I hN T h1 (λu R=> ?_) hd P);cases (show u=Value.ref lf from R);have un:∀{H1:Hp} {s1:Shared},Inv X pins σ H1 s1->Un X.fs [] X.H₀ H1 X.s₀.heap s1.heap:=λ{H1 s1} J=>by
  have:=J.base;rw [nJ]at this;exact this
 refine PySem.W.callWith_F (W.here s H (un I)) (thn (ha pos pins s σ H _ I h) ?_) G Y;rintro us s1 ⟨vs,H1,a,r,d,xs,c,q⟩;refine⟨W.here s1 H1 (un a),?_⟩;have f:=a.hide c;have same:∀s':Shared,(∀b o,s1.heap.get? b=some o->hid H1 d b=none->b∉frs X.stack->s'.heap.get? b=some o)->∀D:Hp,jj X.prog X.w D s'.heap d (.lst xs):=λs' kp D=>by
  obtain⟨B,a6,n,C,j⟩:=(show jj X.prog X.w H1 s1.heap d (.lst xs)from a.hok d _ c);exact⟨B,a6,n,C,kp d _ j yE λz=>by have:=a.stkFree d z;rw [c]at this;cases this⟩
 refine w1x (w0p (W.run X.A X.stack s1 (hid H1 d) us vs _ E hr f.env0 (un f) r q) λr s' hq=> ?_);cases r with
 | error e=>exact O pins σ _ s1 e s' f hq
 | ok fl=>
  cases fl with
  | ret u=>
   obtain⟨v,H2,U,c2,l,L,F,Z⟩:=hq;obtain⟨v',y,J2,M,S,e2⟩:=f.after (Q:=λv' H'=>v'=v/\H'=H2) ⟨v,H2,U,c2,l,L,F,rfl,rfl⟩;subst S e2;have h2:y d=none:=by
    obtain⟨B,a6,n,C,j⟩:=(show jj X.prog X.w H1 s1.heap d (.lst xs)from a.hok d _ c);exact l.free d _ j yE (by simp)
   exact⟨v',_,J2.readopt a c h2 (same s' (λb o e n nf=>l.keep b o e n nf (by simp)) _),M,Z h2⟩
  | next=>exact False.elim hq
  | brk=>exact False.elim hq
  | cont=>exact False.elim hq
end
theorem Fun.okS0{P:Program}{w:World}{K:W.Frag}{mg:Str->Option Value}{base:Heap}{x qual:Str}{st:Stmt}{f:Addr}{fd:FuncData}{N ps:List Str}{k:Nat}{sp:SpS}(F:Fun K x qual st f fd)(S:FnScope N ps (zm st))(len:∀outer s vs H Q E,sp outer s vs H Q E->vs.length=ps.length)
  (a:∀(ac:Value) (A:Around) (outer:List Env) (s:Shared) (H:Hp) (vs:List V) (Q:VK) (E:XK),Room k (A.deeper (envOfC qual (zm st) s.heap.objs.size f ac))->sp outer s vs H Q E->
   ∃t,PSs (z38 CX0 P w K mg base N qual (zm st) f ac A outer s H E).nox (ym st) t/\t {nx:=λ_ H'=>Q .non H',rt:=Q} (start N vs) H):FnOkS P w K mg base CX0 (k + 1) f fd ps sp:=
 F.okS S len λac A outer s H vs Q E hr h=>by
  obtain⟨t,h1,q⟩:=a ac A outer s H vs Q E hr h;exact⟨t,h1.nox,q⟩
end L2

namespace L2
open PySem PySem.Spec PyProof.Rows
noncomputable def Ite(K:W.Frag)(b:Addr):It:=
 ⟨λi H => ∃ ys y, SqL K H b ys /\ ys[i]? = some y,
  λi H v H'=>∃p y,v= .ref p/\H p=none/\H'=upd H p (.tup [.int (i:Int),y])/\∀ys,SqL K H b ys->ys[i]? =some y,
  λi H=>∃ys,SqL K H b ys/\ys.length<=i⟩
def zcC(e it b:Addr)(i:Nat)(h:Heap):Prop:=(∃a,IsEnum h e it (i:Int) a)/\h.IsListIter it b i
variable{elts:List Expr}{tp:Pos}
theorem z90{P:Program}{w:World}{K:W.Frag}{x1}{e it b:Addr}(B:e≠it):
  Turn P w K (.Tuple elts x1 tp) (Ite K b) [e,it] e (zcC e it b) where
 mem:=by simp
 obj:=λi h st c hc=>by
  obtain⟨⟨f,a⟩,⟨C,l,c2,d2⟩⟩:=st;simp only [wE,qf,Qu]at hc;rcases hc with rfl | rfl
  ·exact⟨_,a,λv q=>by cases q⟩
  ·exact⟨C,l,λv q=>by rw [d2]at q;cases q⟩
 keep:=λi h h' st k=>by
  obtain⟨⟨f,a⟩,h2⟩:=st;exact⟨⟨f,k e (by simp) _ a⟩,h2.at λo z=>k it (by simp) o z⟩
 item:=by
  intro X n x A hc i pins s σ H E I j st t;subst n x A;obtain⟨ys,y,d,D⟩:=t;obtain⟨F,u,q,M⟩:=I.list d;obtain⟨v,O,L⟩:=u.get D;obtain⟨⟨f,a⟩,h2⟩:=st;refine wpAny_pyNext_enum_item a h2 q.isList (by simpa using O) B λhh Q T R g4 J=>⟨_,rfl,?_⟩
  refine wpAny_letOwnedTupleGo_enum Q λp S r=> ?_
  have lt:∀{c o},s.heap.get? c=some o->c≠s.heap.objs.size:=λz=>q5 (wL z)
  have kk:∀c o,c∉ [e,it]->s.heap.get? c=some o->p.get? c=some o:=λc o hc z=>by
   simp only [wE,qf,Qu,not_or]at hc;exact r.extBut _ _ hc.1 (J c o hc.1 hc.2 z)
  have U:p.get? s.heap.objs.size=some {cls:= .type "tuple",data:= .seq #[.int i s.toks,v]}:=r.extBut _ _ (w1h (lt a)) R;have fresh:H s.heap.objs.size=none:=I.hok.fresh (ww _);have G:Inv X pins σ (upd H s.heap.objs.size (.tup [.int (i:Int),y])) {s with heap:=p,toks:=s.toks + 1}:=I.turnedLaid (t':=s.toks + 1) (ch:= [e,it]) kk j (ww _) ⟨ja (by show 2<=_;decide),[.int (i:Int) s.toks,v],.cons ⟨_,rfl⟩ (.cons L .nil),⟨_,U,rfl,0,rfl⟩⟩;refine⟨.ref s.heap.objs.size,_,G,rfl,⟨s.heap.objs.size,y,rfl,fresh,rfl,λY h'=> ?_⟩,⟨⟨v,by simpa using S⟩,T.at λo z=>r.extBut _ o B.symm z⟩,λc hc=> ?_⟩
  ·rw [I.list_inj h' d];exact D
  ·have N:c≠s.heap.objs.size:=by
    simp only [wE,qf,Qu]at hc;obtain⟨C,l,_⟩:=id h2;rcases hc with rfl | rfl
    ·exact lt a
    ·exact lt l
   rw [zn N];exact(j c hc).1
 done:=by
  intro X n x A hc i pins s σ H E I j st t;subst n x A;obtain⟨ys,d,Z⟩:=t;obtain⟨F,u,q,M⟩:=I.list d;have hl:=u.length;obtain⟨⟨f,a⟩,h2⟩:=st;refine wpAny_pyNext_enum_end (I.ok.hd hc) a h2 q.isList (by simp;lia) λh' k=>⟨rfl,I.turnedL (t':=s.toks) (ch:= [e,it]) (λc o hc z=> ?_) j⟩
  simp only [wE,qf,Qu,not_or]at hc;exact k c o hc.2 z
 self:=λ_ _ _ _ _ st h=>let ⟨⟨_,a⟩,_⟩:=st;wpAny_pyIter_enum a h
variable{X:Cx}
section
variable{x1:Nat}
def zdO(K:W.Frag)(ta:TA):TI:=λσ H R=>ta σ H λvs H1=>∃b,vs= [.ref b]/\(∃ys,SqL K H1 b ys)/\R (Ite K b) H1
theorem zbV{b:Expr}{ta:TA}{p pos:Pos}(n:Gl X "enumerate")(hm:X.mg "enumerate"=none)(ha:PA X [b] ta)(hs:starEach [b] X.env= [(false,eval b X.env)]:=by rfl):
  PI X (.Tuple elts x1 tp) (.Call (.Name "enumerate" p) [b] [] pos) (zdO X.K ta):=by
 intro pins s σ H R I h;refine Call_ (z1q I n hm boot_enumerate (Q3 (thn (ha pos pins s σ H _ I h) ?_) (by rw [hs];rfl) (by rfl)));rintro us s1 ⟨vs,H1,a,r1,l⟩;obtain⟨l2,e,⟨ys,i⟩,q⟩:=l;subst e;cases r1 with | cons j r2=>
 cases r2;cases j;obtain⟨r,t,pl,_⟩:=a.list i;refine call_enumerate_list pl.isList λh' d o u kk=> ?_
 refine wpAny_pyIter_enum d ?_;refine⟨s1.heap.objs.size + 1,[s1.heap.objs.size + 1,s1.heap.objs.size],_,_,H1,rfl,a.kept (t':=s1.toks) kk,z90 (b:=l2) (Nat.succ_ne_self _),⟨⟨_,d⟩,o⟩,λb c=> ?_,q⟩;have f:s1.heap.objs.size<=b:=by
  simp only [wE,qf,Qu]at c;rcases c with e | e <;> rw [e]
  ·exact Nat.le_add_right _ 1
  ·exact ww _
 exact a.fpOk f (a.hok.fresh f)
end
structure KnC(P:Program)(w:World)(K:W.Frag)(mg:Str->Option Value)(base:Heap)(k:Nat)(x:Str)(ps:List Str)(sp:Sp)(C:Addr):Prop where
 ex:∃(f:Addr) (fd:FuncData),Mk K C f/\FnOk P w K mg base CX0 k f fd ps sp/\mg x=some (.ref C)/\Binds K fd ps []
structure KnM(P:Program)(w:World)(K:W.Frag)(mg:Str->Option Value)(base:Heap)(k:Nat)(m:Str)(ps:List Str)(sp:Sp)(C:Addr):Prop where
 cls:Cls K C
 ex:∃(f:Addr) (fd:FuncData),Meth K C m f/\FnOk P w K mg base CX0 k f fd ps sp/\Binds K fd ps []
section
variable{k:Nat}{x m:Str}{ps:List Str}{sp:Sp}{e o:Expr}{es:List Expr}{t:TA}{ta:TE}{p pos apos:Pos}{C:Addr}
theorem yr(M:KnC X.prog X.w X.K X.mg X.base k x ps sp C)(hr:Room (k + 1) X.A)(a:Gl X x)(ha:PA X (e :: es) t)
  (h:(x == ("__debug__":Str))=false:=by decide) (b:starEach (e :: es) X.env=(false,eval e X.env) :: starEach es X.env:=by rfl) (d:(backTo pos (starEach es X.env)).any (·.1)=false:=by rfl):
  PE X (.Call (.Name x p) (e :: es) [] pos) (zct C sp [] E0 t):=by
 obtain⟨f,fd,M,F,hm,c⟩:=M.ex;exact zbE M F hr a hm c .nil z3t ha h b d
theorem zaA{pl:Sem Bool}(M:KnM X.prog X.w X.K X.mg X.base k m ps sp C)(hr:Room k X.A)(b:PE X o ta)(ha:PA X (e :: es) t)
  (c:starEach (e :: es) X.env=(false,eval e X.env) :: starEach es X.env:=by rfl) (h:(backTo pos (starEach es X.env)).any (·.1)=false:=by rfl)
  (ht:eval (.Call (.Attribute o m apos) (e :: es) [] pos) X.env=(do
   let a<-eval o X.env
   standAt apos.atName
   let (f,first)<-holding [a] (getMethod a m pl)
   callWith pos f first (backTo pos (starEach (e :: es) X.env)) (backToKw pos (keywordEach [] X.env))):=by rfl):
  PE X (.Call (.Attribute o m apos) (e :: es) [] pos) (z8t C m sp [] E0 ta t):=by
 obtain⟨f,fd,hm,F,d⟩:=M.ex;exact zc8 b M.cls hm F hr d .nil z3t ha c h ht
theorem z97{pl:Sem Bool}(M:KnM X.prog X.w X.K X.mg X.base k m ps sp C)(hr:Room k X.A)(b:PE X o ta)
  (ht:eval (.Call (.Attribute o m apos) [] [] pos) X.env=(do
   let a<-eval o X.env
   standAt apos.atName
   let (f,first)<-holding [a] (getMethod a m pl)
   callWith pos f first (backTo pos (starEach [] X.env)) (backToKw pos (keywordEach [] X.env))):=by rfl):
  PE X (.Call (.Attribute o m apos) [] [] pos) (z8t C m sp [] E0 ta zdg):=by
 obtain⟨f,fd,hm,F,c⟩:=M.ex;exact za2 b M.cls hm F hr c .nil z3t ht
end
end L2

namespace L2
open PySem PySem.Spec PyProof.Rows
noncomputable def Itv(K:W.Frag)(a:Addr)(n:Nat):It:=
 ⟨λi H=>i < n/\∃xs x,SqL K H a xs/\xs[n - 1 - i]? =some x,λi H x H'=>H'=H/\∀xs,SqL K H a xs->xs[n - 1 - i]? =some x,λi _=>n<=i⟩
variable{tg:Expr}{K:W.Frag}
theorem zaK{P:Program}{w:World}(a it:Addr)(n:Nat):Turn P w K tg (Itv K a n) [it] it (λi h=>i<=n/\h.IsRevIter it a ((n:Int) - 1 - (i:Int))) where
 mem:=by simp
 obj:=λi h st b f=>by
  have e:b=it:=by simpa using f
  subst e;obtain⟨_,o,e,c,d⟩:=st;exact⟨o,e,λv z=>by rw [d]at z;cases z⟩
 keep:=λi h h' st k=>⟨st.1,st.2.at λo e=>k it (by simp) o e⟩
 item:=by
  intro X D y A hc i pins s σ H E I q st l;subst D y A;obtain⟨hi,xs,x,hq,F⟩:=l;obtain⟨a6,M,p,hz⟩:=I.list hq;obtain⟨u,R,O⟩:=M.get F;obtain⟨f0,f1,f2,B,C,r⟩:=q it (by simp);have t:(n:Int) - 1 - (i:Int)=((n - 1 - i:Nat):Int):=by lia
  have j:=st.2;rw [t]at j;refine wpAny_pyNext_rev_item j p.isList (x:=u) (by simpa using R) λh' G L=> ?_
  have J:Inv X pins σ H {s with heap:=h'}:=I.turned (t':=s.toks) (λb o f e=>(L.2 b f).trans e) f0 f1 B C r;obtain⟨o,e,c,d⟩:=id G;have N:((n - 1 - i:Nat):Int) - 1=(n:Int) - 1 - ((i + 1:Nat):Int):=by lia
  exact⟨u,rfl,z8E (s:={s with heap:=h'}) e c d (by decide) ⟨x,H,J,O,⟨rfl,λys Q=>by rw [I.list_inj Q hq];exact F⟩,⟨hi,by rw [<-N];exact G⟩,λb f=>(q b f).1⟩⟩
 done:=by
  intro X D y A hc i pins s σ H E I q st l;subst D y A;have l:n<=i:=l;obtain⟨f0,f1,f2,B,C,r⟩:=q it (by simp);have t:(n:Int) - 1 - (i:Int)= -1:=by have:=st.1;lia
  have j:=st.2;rw [t]at j;exact wpAny_pyNext_rev_end (I.ok.hd hc) j λh' k=>⟨rfl,I.turned (t':=s.toks) (λb o f e=>k b o f e) f0 f1 B C r⟩
 self:=λ_ _ _ _ _ st h=>wpAny_pyIter_revIter st.2 h
section
variable{X:Cx}
def zeE(K:W.Frag)(ta:TA):TI:=λσ H R=>ta σ H λvs H1=>∃a xs,vs= [.ref a]/\SqL K H1 a xs/\R (Itv K a xs.length) H1
theorem zd5{b:Expr}{ta:TA}{p pos:Pos}(r:Gl X "reversed")(hm:X.mg "reversed"=none)(ha:PA X [b] ta)(hs:starEach [b] X.env= [(false,eval b X.env)]:=by rfl):
  PI X tg (.Call (.Name "reversed" p) [b] [] pos) (zeE X.K ta):=by
 intro pins s σ H R I h;refine Call_ (z1q I r hm PyProof.Rows.boot_reversed (Q3 (thn (ha pos pins s σ H _ I h) ?_) (by rw [hs];rfl) (by rfl)));rintro us s1 ⟨vs,H1,a,r1,n⟩;obtain⟨l2,xs,e,j,q⟩:=n;subst e;cases r1 with | cons i r2=>
 cases r2;cases i;obtain⟨c,d,pl,_⟩:=a.list j;have hl:=d.length;refine call_reversed_list pl.isList ?_;refine wpAny_pyIter_revIter ⟨_,qc _ rfl,rfl,rfl⟩ ?_;have l:((c.toArray.size:Nat):Int) - 1=((xs.length:Nat):Int) - 1 - ((0:Nat):Int):=by rw [wy];lia
 refine⟨s1.heap.objs.size,[s1.heap.objs.size],_,_,H1,rfl,a.kept (t':=s1.toks) λb o e=>wm _ e,zaK l2 _ xs.length,⟨qY _,by rw [<-l];exact⟨_,qc _ rfl,rfl,rfl⟩⟩,λb f=> ?_,q⟩;have e:b=s1.heap.objs.size:=by simpa using f
 subst e;exact a.fpOk (ww _) (a.hok.fresh (ww _))
end
variable{H:Hp}
theorem zc6{a:Addr}{xs:List V}{g:TG}{tb:TS}{D:Ends}{σ:St}(b:Nat->St->Hp->Prop)(h0:b 0 σ H)(hl:∀i σ H,i<=xs.length->b i σ H->SqL K H a xs)
  (hs:∀i x σ H,xs.reverse[i]? =some x->b i σ H->g x σ H λσ2 H2=>tb {D with nx:=b (i + 1),ct:=b (i + 1),bk:=D.nx} σ2 H2) (hd:∀σ H,b xs.length σ H->D.nx σ H):
  ∃W:Nat->Nat->St->Hp->Prop,(∃m,W 0 m σ H)/\∀i m σ H,W i m σ H->
   ((Itv K a xs.length).stop i H/\D.nx σ H)\/((Itv K a xs.length).go i H/\∃N:St->Hp->Prop,(∀σ' H',N σ' H'->∃c,c < m/\W (i + 1) c σ' H')/\∀x H',(Itv K a xs.length).yld i H x H'->g x σ H' λσ2 H2=>tb {D with nx:=N,ct:=N,bk:=D.nx} σ2 H2):=by
 refine⟨λi m σ H=>m=xs.length - i/\i<=xs.length/\b i σ H,⟨xs.length,by simp,qY _,h0⟩,?_⟩;rintro i m σ H ⟨rfl,hi,p⟩;have q:=hl i σ H hi p;by_cases ag:i < xs.length
 ·refine .inr ⟨⟨ag,xs,xs[xs.length - 1 - i],q,by rw [wa (by lia)]⟩,b (i + 1),λσ' H' p'=>⟨xs.length - (i + 1),by lia,rfl,ag,p'⟩,λx H' y=> ?_⟩;obtain⟨e,y⟩:=y;subst e;exact hs i x σ _ (by rw [List.getElem?_reverse ag];exact y xs q) p
 ·have e:i=xs.length:=by lia
  subst e;exact .inl ⟨ww _,hd σ H p⟩
theorem z9l{b:Addr}{ys:List V}{tc:TT}{te:TE}{Q:List V->Hp->Prop}(a:Nat->List V->Hp->Prop)(h0:a 0 [] H)(hl:∀i zs H,i<=ys.length->a i zs H->SqL K H b ys/\zs.length < sizeLine)
  (hs:∀(i:Nat) y zs H p,ys[i]? =some y->a i zs H->H p=none->tc [some (.int (i:Int)),some y] (upd H p (.tup [.int (i:Int),y])) λc H2=>if c=true then te [some (.int (i:Int)),some y] H2 λz d=>a (i + 1) (zs ++ [z]) d else a (i + 1) zs H2) (hd:∀zs H,a ys.length zs H->Q zs H):
  z1U (Ite K b) (zdF K 2 (z6F (z1H 0) (z6F (z1H 1) zdv))) tc te Q [none,none] H:=by
 refine⟨zeu,λi m zs H=>m=ys.length - i/\i<=ys.length/\a i zs H,⟨_,_,rfl⟩,⟨_,rfl,qY _,h0⟩,?_⟩;rintro i m zs σ H ⟨l,n,rfl⟩ ⟨rfl,hi,p⟩;obtain⟨f,hz⟩:=hl i zs H hi p;refine⟨hz,?_⟩;by_cases ag:i < ys.length
 ·refine .inr ⟨⟨ys,ys[i],f,by simp [ag]⟩,λy d=>a (i + 1) (zs ++ [y]) d,λH2=>a (i + 1) zs H2,λy d z=>⟨ys.length - (i + 1),by lia,rfl,ag,z⟩,λH2 z=>⟨ys.length - (i + 1),by lia,rfl,ag,z⟩,λx H' y=> ?_⟩;obtain⟨h,v,rfl,hp,rfl,j⟩:=y;exact⟨h,[.int (i:Int),v],rfl,SqT.of zj,rfl,_,[v],rfl,v,[],rfl,rfl,⟨_,_,rfl⟩,hs i v zs H h (j ys f) p hp⟩
 ·have e:i=ys.length:=by lia
  subst e;exact .inl ⟨⟨ys,f,ww _⟩,hd zs H p⟩
end L2

namespace L2
open PySem PySem.Spec PyProof.Rows
variable{X:Cx}
theorem z3L{K:W.Frag}{e:Expr}{f:Str}{pos:Pos}{ta:TE}(h:X.K=K)(a:PE X e ta)(b:attributeBase e f X.env (eval e X.env)=eval e X.env):PE X (.Attribute e f pos) (zdZ K ta f):=by
 subst h;exact zE a b
theorem z9T:∀{bs:List Bool} {us:List Value},zP (bs.map V.bl) us->us=bs.map Value.bool
 | [],_,r=>by rw [qO]at r;cases r;rfl
 | b :: bs,_,r=>by
  rw [wR]at r;cases r with
  | cons r1 r2=>
   rw [z9T r2,show _=Value.bool b from r1]
   rfl
theorem zaD(hc:X.calm=true):yZ X (.builtin "all") (λxs H Q=>∃(a:Addr) (bs:List Bool),xs= [.ref a]/\SqL X.K H a (bs.map V.bl)/\Q (.bl (bs.all id)) H):=by
 intro pins s σ H xs us Q I r h;obtain⟨a,bs,rfl,hq,q⟩:=h;obtain⟨u,rfl,j⟩:=vals1 r;cases j;obtain⟨a6,r',pl,hz⟩:=I.list hq;have t:=z9T r';subst t;have w:a < s.heap.objs.size:=let ⟨o,ho,_⟩:=pl.isList;wL ho
 refine call_all_walk (wpAny_pyIter_list pl.isList ?_);refine⟨s.heap.objs.size,_,_,_,_,_,λi=>bs.getD i false,rfl,Walks.list (A:=X.A.in1) (I.ok.hd hc) _ a (q5 w) (bs.map Value.bool).toArray,⟨⟨_,qc _ rfl,rfl,rfl⟩,pl.isList.at λo e=>wm _ e⟩,λi v s' n x c f=> ?_,λh' tk p=> ?_⟩
 ·have c:((bs.map Value.bool).toArray)[i]? =some v:=c;rw [List.getElem?_toArray,wO]at c;cases d:bs[i]? with
  | none=>rw [d]at c;cases c
  | some b=>
   rw [d]at c;cases c;have e:bs.getD i false=b:=by rw [wo,d];rfl
   have f:n (bs.getD i false) s':=f;rw [e]at f;exact w09 f
 ·have l:((List.range ((bs.map Value.bool).toArray.size)).all λi=>bs.getD i false)=bs.all id:=by
   rw [wy,w9,w0d,qH,qH];constructor
   ·intro h b d;obtain⟨i,hi,rfl⟩:=List.getElem_of_mem d;have:=h i (Qf.mpr hi)
    rwa [wo,wa hi]at this
   ·intro h i hi;have hi:=Qf.mp hi;rw [wo,wa hi];exact h _ (wG hi)
  rw [l];refine⟨.bl (bs.all id),H,I.kept λb o e=>p b o (λz=> ?_) (wm _ e),rfl,q⟩;rw [wu.mp z]at e;exact absurd (wL e) (QO _)
theorem z8T:bootBuiltins "all"=some (.builtin "all"):=by decide +kernel
end L2

namespace L2
open PySem PySem.Spec PyProof.Rows
theorem z8w{v:V}{s:Str}:eqV v (.str s)=true↔v= .str s:=by
 cases v <;> simp [eqV]
def zdb(K:W.Frag):R2:=λx y H Q=>∃(a b:Addr) (xs:List V) (ss:List Str),x= .ref a/\y= .ref b/\SqT K H a xs/\SqT K H b (ss.map V.str)/\(∀v∈xs,yM v=true\/∃p zs,v= .ref p/\SqT K H p zs)/\∀t:Bool,(t=true↔xs=ss.map V.str)->Q (.bl t) H
variable{X:Cx}
theorem z76{K:W.Frag}(N:X.K=K)(E:X.A.units + 1 < cLine):OpR X (compareOp .Eq) (zdb K):=by
 subst N;intro pins s σ H x y v u Q I P t h;have O:X.A.units < cLine:=by lia
 obtain⟨a,b,xs,ss,rfl,rfl,ha,w,D,q⟩:=h;cases P;cases t;obtain⟨a6,r,pl,hz⟩:=I.tuple ha;obtain⟨M,r2,F,_⟩:=I.tuple w;have l1:=r.length;have l2:=r2.length;rw [w9]at l2;refine SeqAt.eq_tupleAt (e:=λj=>eqV (xs.getD j .non) ((ss.map V.str).getD j .non)) (show s.heap.IsTuple a a6.toArray from pl) (show s.heap.IsTuple b M.toArray from F) O (λj h1 h2=> ?_) ⟨.bl _,H,I,rfl,q _ ?_⟩
 ·rw [wy]at h1 h2;have B:j < xs.length:=by lia
  have c:j < ss.length:=by lia
  have i:xs[j]? =some xs[j]:=wa B;have l:(ss.map V.str)[j]? =some (.str ss[j]):=by rw [wO,wa c];rfl
  obtain⟨w1,G,d⟩:=r.get i;obtain⟨w2,C,n⟩:=r2.get l;rw [QZ,QZ,(we.mp G).2,(we.mp C).2,wo,wo,i,l];rcases D _ (qD i)with f | ⟨p,zs,e,hp⟩
  ·exact z5K d n f rfl
  ·show SeqAt.EqAt _ _ _ _ (eqV xs[j] (.str ss[j]))
   rw [e]at d ⊢;cases (show w1=Value.ref p from d);obtain⟨R,rfl⟩:=n;obtain⟨o,_,z,_⟩:=I.tuple hp;exact SeqAt.EqAt.tuple_str _ _ (show s.heap.IsTuple p o.toArray from z) (by show X.A.units + 1 < cLine;exact E)
 ·rw [wy,wy,<-l1,<-l2];constructor
  ·intro h;rw [qT,qH,Qi]at h;obtain⟨h1,h2⟩:=h;refine List.ext_getElem (by rw [w9];exact h2) λj L S=> ?_
   have:=h1 j (Qf.mpr (by lia));have c:j < ss.length:=by lia
   rw [wo,wo,wa L,wO,wa c]at this;rw [List.getElem_map];exact z8w.mp this
  ·rintro rfl;rw [w9,qT,qH,Qi];refine⟨λj J=> ?_,rfl⟩;have c:j < ss.length:=by have:=Qf.mp J;lia
   rw [wo,wO,wa c];exact z8w.mpr rfl
def zcK(sp:Sp)(t:TA):TE:=λσ H Q=>t σ H λvs H1=>∃d xs,H1 d=some (.lst xs)/\sp (vs ++ []) (hid H1 d) (λv H2=>H2 d=none->Q v (upd H2 d (.lst xs))) E0
theorem zar{k:Nat}{x:Str}{ps:List Str}{sp:Sp}{e:Expr}{es:List Expr}{t:TA}{p pos:Pos}(C:Kn X.prog X.w X.K X.mg X.base k x ps sp)(hr:Room k X.A)(Z:Gl X x)(ha:PA X (e :: es) t)
  (O:(x == ("__debug__":Str))=false:=by decide) (J:starEach (e :: es) X.env=(false,eval e X.env) :: starEach es X.env:=by rfl) (T:(backTo pos (starEach es X.env)).any (·.1)=false:=by rfl):
  PE X (.Call (.Name x p) (e :: es) [] pos) (zcK sp t):=by
 obtain⟨f,fd,F,hm,U,M⟩:=C.ex;intro pins s σ H Q I h;refine Ql (z2O I Z hm ?_ O);refine w0N (h₀:=X.base) I.ok.mod.kin U (thn (ha pos pins s σ H _ I h) ?_) J T;rintro us s1 ⟨vs,H1,a,r,d,xs,c,q⟩;refine⟨a.kIn,?_⟩;have y:=a.hide c;have same:∀s':Shared,(∀b o,s1.heap.get? b=some o->hid H1 d b=none->b∉frs X.stack->s'.heap.get? b=some o)->∀E:Hp,jj X.prog X.w E s'.heap d (.lst xs):=λs' kp E=>by
  obtain⟨B,a6,n,D,i⟩:=(show jj X.prog X.w H1 s1.heap d (.lst xs)from a.hok d _ c);exact⟨B,a6,n,D,kp d _ i yE λz=>by have:=a.stkFree d z;rw [c]at this;cases this⟩
 have r2:zP (vs ++ []) (us ++ []):=r.append .nil;have hl:(us ++ []).length=ps.length:=by rw [<-r2.length];exact F.len _ _ _ _ q
 refine w1x (w0p (F.run X.A X.stack s1 (hid H1 d) ⟨us,[]⟩ (us ++ []) (vs ++ []) _ E0 hr y.env0 (M s1 us a.kIn hl) r2 q) λr s' hq=> ?_);cases r with
 | error e=>exact z3t pins σ _ s1 e s' y hq
 | ok fl=>
  cases fl with
  | ret u=>
   obtain⟨v,H2,S,c2,j,L,G,Y⟩:=hq;obtain⟨v',l,J2,N,R,P⟩:=y.after (Q:=λv' H'=>v'=v/\H'=H2) ⟨v,H2,S,c2,j,L,G,rfl,rfl⟩;subst R P;have h2:l d=none:=by
    obtain⟨B,a6,n,D,i⟩:=(show jj X.prog X.w H1 s1.heap d (.lst xs)from a.hok d _ c);exact j.free d _ i yE (by simp)
   exact⟨v',_,J2.readopt a c h2 (same s' (λb o e n nf=>j.keep b o e n nf (by simp)) _),N,Y h2⟩
  | next=>exact False.elim hq
  | brk=>exact False.elim hq
  | cont=>exact False.elim hq
theorem z26{prog:Program}{w:World}{A:Around}{E:Value->Shared->Prop}{s:Shared}{t sl:Addr}{items:Array Value}{a b:Value}{lo hi:Option Int}{Q:Value->Shared->Prop}(ht:IsTup s.heap t items)(hs:s.heap.IsSliceOf sl a b .none)(pl:IsPart a lo)(i:IsPart b hi)
  (c:HT.sIx items.size 0 lo=0/\HT.sIx items.size items.size hi=items.size) (h:Q (.ref t) s):wpAny (model prog w) A (getItem (.ref t) (.ref sl)) Q E s:=by
 obtain⟨os,f,e,hds⟩:=id hs;have d:s.TypeIs (.ref sl) "slice":=⟨os,f,e⟩;unfold getItem
 try with_reducible refine QP ?_
 first | refine wz (wZ ?_) | skip
 refine wz (wpAny_sequenceKey ht.typeIs (by decide) ?_);refine wz (wpAny_callSpecial?_slot (name:=Str.ofString "__getitem__") ht.typeIs Q4
  (wpAny_call_entry Q4 ht.typeIs entry_tuple_getitem ?_ (args_tuple_getitem _ _)))
 show wpAny _ _ (Builtin.Tuple.tupleItemsOf (.ref t) >>= _) _ _ s
 refine wz (tupleItemsOf_ ht ?_);refine wz (wpAny_typeOf d ?_);rw [wU (by decide)];refine wz (HT.sliceApplied_gen hs pl i ?_);have j:((((HT.sIx items.size 0 lo:Nat):Int) == 0 && (1:Int) == 1 && (HT.sIx items.size items.size hi - HT.sIx items.size 0 lo) == items.size)=true):=by
  rw [c.1,c.2];simp
 show wpAny _ _ (if(((HT.sIx items.size 0 lo:Nat):Int) == 0 && (1:Int) == 1 && (HT.sIx items.size items.size hi - HT.sIx items.size 0 lo) == items.size)=true then _ else _) _ _ s
 rw [wU j];refine wz ?_;unfold Builtin.Tuple.tupleIsExact;refine wz (wpAny_typeOf ht.typeIs (wZ ?_));rw [wU (by decide)];refine wz (wpAny_rule ?_);exact wZ ⟨_,rfl,wZ h⟩
def zdu(K:W.Frag):V->Option Int->Option Int->Hp->VK->Prop:=λx lo hi H Q=>∃a xs,x= .ref a/\SqT K H a xs/\(HT.sIx xs.length 0 lo=0/\HT.sIx xs.length xs.length hi=xs.length)/\Q (.ref a) H
theorem za0:SlR X (zdu X.K):=by
 intro pins s σ H x v f i lo hi sl Q I e hs pl c h;obtain⟨a,xs,rfl,b,d,q⟩:=h;cases e;obtain⟨a6,r,ht,hz⟩:=I.tuple b;have hlen:a6.toArray.size=xs.length:=by rw [wy];exact r.length.symm
 refine⟨"tuple",_,Q4.lookup,ht.typeIs,?_⟩;exact z26 ht hs pl c (by rw [hlen];exact d) ⟨.ref a,H,I,rfl,q⟩
def z8o:SlR X (λx lo hi H Q=>zdt X.K x lo hi H Q\/zdu X.K x lo hi H Q):=z0R.or za0
end L2

namespace L2
open PySem PySem.Spec PyProof.Rows
variable{X:Cx}{ps:List Str}{sp:Sp}
theorem zc7{k:Nat}{f d:Addr}{fd:FuncData}{pins:List (Addr×Obj)}{σ:St}{H1:Hp}{s1:Shared}{Q:VK}{us:List Value}{vs xs:List V}(F:FnOk X.prog X.w X.K X.mg X.base CX0 k f fd ps sp)(hr:Room k X.A)(y:Binds X.K fd ps [])
  (a:Inv X pins σ H1 s1) (r:zP vs us) (c:H1 d=some (.lst xs)) (q:sp (vs ++ []) (hid H1 d) (λv H2=>H2 d=none->Q v (upd H2 d (.lst xs))) E0):wpAny (model X.prog X.w) X.A (call (.ref f) us) (EP X pins σ Q) X.xe s1:=by
 have l:=a.hide c;have same:∀s':Shared,(∀b o,s1.heap.get? b=some o->hid H1 d b=none->b∉frs X.stack->s'.heap.get? b=some o)->∀t:Hp,jj X.prog X.w t s'.heap d (.lst xs):=λs' kp t=>by
  obtain⟨p,a6,n,s,h⟩:=(show jj X.prog X.w H1 s1.heap d (.lst xs)from a.hok d _ c);exact⟨p,a6,n,s,kp d _ h yE λz=>by have:=a.stkFree d z;rw [c]at this;cases this⟩
 have r2:zP (vs ++ []) (us ++ []):=r.append .nil;have hl:(us ++ []).length=ps.length:=by rw [<-r2.length];exact F.len _ _ _ _ q
 refine w1x (w0p (F.run X.A X.stack s1 (hid H1 d) ⟨us,[]⟩ (us ++ []) (vs ++ []) _ E0 hr l.env0 (y s1 us a.kIn hl) r2 q) λr s' hq=> ?_);cases r with
 | error e=>exact z3t pins σ _ s1 e s' l hq
 | ok I=>
  cases I with
  | ret u=>
   obtain⟨v,H2,G,L,i,x,C,H⟩:=hq;obtain⟨v',j,J,B,E,D⟩:=l.after (Q:=λv' H'=>v'=v/\H'=H2) ⟨v,H2,G,L,i,x,C,rfl,rfl⟩;subst E D;have h2:j d=none:=by
    obtain⟨p,a6,n,s,h⟩:=(show jj X.prog X.w H1 s1.heap d (.lst xs)from a.hok d _ c);exact i.free d _ h yE (by simp)
   exact⟨v',_,J.readopt a c h2 (same s' (λb o e n nf=>i.keep b o e n nf (by simp)) _),B,H h2⟩
  | next=>exact False.elim hq
  | brk=>exact False.elim hq
  | cont=>exact False.elim hq
noncomputable def zcJ(C:Addr)(m:Str)(sp:Sp)(ta:TE):TE:=λσ H Q=>ta σ H λx H1=>∃a dx fs d xs,x= .ref a/\H1 a=some (.ins C dx fs)/\fs.lookup m=none/\H1 d=some (.lst xs)/\sp [x] (hid H1 d) (λv H2=>H2 d=none->Q v (upd H2 d (.lst xs))) E0
theorem z6B{k:Nat}{m:Str}{o:Expr}{ta:TE}{pos apos:Pos}{C:Addr}{pl:Sem Bool}(M:KnM X.prog X.w X.K X.mg X.base k m ps sp C)(hr:Room k X.A)(j:PE X o ta)
  (ht:eval (.Call (.Attribute o m apos) [] [] pos) X.env=(do
   let c<-eval o X.env
   standAt apos.atName
   let (f,first)<-holding [c] (getMethod c m pl)
   callWith pos f first (backTo pos (starEach [] X.env)) (backToKw pos (keywordEach [] X.env))):=by rfl):
  PE X (.Call (.Attribute o m apos) [] [] pos) (zcJ C m sp ta):=by
 obtain⟨f,fd,hm,F,e⟩:=M.ex;intro pins s σ H Q I h;refine PySem.W.methodCall_KW (pl:=pl) (thn (j pins s σ H _ I h) ?_) ht;rintro u s1 ⟨x,H1,b,n,a,dx,fs,d,xs,ex,p,l,i,q⟩;subst ex;obtain rfl:u=Value.ref a:=n;refine z2s b p M.cls hm l ?_;exact PySem.W.callWith_K0 (first:= [.ref a]) b.kIn hm.kp (zc7 (us:= [.ref a]) (vs:= [.ref a]) F hr e b (.cons rfl .nil) i q)
end L2

set_option Elab.async false
set_option linter.all false
set_option maxRecDepth 100000
set_option maxHeartbeats 1000000
namespace L2
open PySem PySem.Spec PyProof.Rows
theorem Room.m{j k:Nat}{A:Around}(r:Room k A)(h:j<=k:=by first | decide | lia):Room j A:=r.mono h
end L2
namespace Q12
open PySem L2 Cn Rw Qs
noncomputable def top(i:Nat):Stmt:=PySem.Challenge.pw_sheetask_k11_whole_turned_to_an_end.main.body.getD i (.Pass ⟨0,0,0,0⟩)
noncomputable abbrev z1k:Stmt:=top 1
noncomputable abbrev kE:Stmt:=top 11
noncomputable abbrev z0S:Stmt:=top 12
noncomputable abbrev z2r:Stmt:=top 13
noncomputable abbrev kL:Stmt:=top 15
noncomputable abbrev z0e:Stmt:=top 16
noncomputable abbrev z1M:Stmt:=top 17
noncomputable abbrev kH:Stmt:=top 18
noncomputable abbrev kM:Stmt:=top 19
noncomputable abbrev z2v:Stmt:=top 20
noncomputable abbrev z3h:Stmt:=top 22
noncomputable abbrev z4s:Stmt:=top 23
noncomputable abbrev z3O:Stmt:=top 24
noncomputable abbrev z1J:Stmt:=top 25
noncomputable abbrev kQ:Stmt:=top 26
noncomputable abbrev kT:Stmt:=top 27
noncomputable abbrev z5W:Stmt:=top 28
noncomputable abbrev z3W:Stmt:=top 29
noncomputable abbrev z0P:Stmt:=top 30
noncomputable abbrev z0y:Stmt:=top 31
noncomputable abbrev z3T:Stmt:=top 32
noncomputable abbrev z0i:Stmt:=top 34
noncomputable abbrev z2k:Stmt:=top 36
noncomputable abbrev z1A:Stmt:=top 38
noncomputable abbrev z1o:Stmt:=top 39
noncomputable abbrev z1d:Stmt:=top 40
noncomputable abbrev z1B:Stmt:=top 41
noncomputable abbrev z1m:Stmt:=top 42
noncomputable abbrev z0u:Stmt:=top 43
noncomputable abbrev jQ:Stmt:=top 44
noncomputable abbrev kr:Stmt:=top 45
noncomputable abbrev ko:Stmt:=top 46
noncomputable abbrev z00:Stmt:=top 47
noncomputable abbrev z0W:Stmt:=top 48
noncomputable abbrev kU:Stmt:=top 49
noncomputable abbrev yg:Stmt:=top 50
noncomputable abbrev kR:Stmt:=top 51
noncomputable abbrev z0X:Stmt:=top 52
noncomputable abbrev z0t:Stmt:=top 53
noncomputable abbrev z0M:Stmt:=top 54
noncomputable abbrev kZ:Stmt:=top 55
noncomputable abbrev yj:Stmt:=top 56
noncomputable abbrev z1i:Stmt:=top 57
noncomputable abbrev yc:Stmt:=top 58
noncomputable abbrev z0l:Stmt:=top 59
noncomputable abbrev yP:Stmt:=top 60
noncomputable abbrev z0V:Stmt:=top 61
noncomputable abbrev z0o:Stmt:=top 62
noncomputable abbrev z0T:Stmt:=top 63
noncomputable abbrev z5B:Stmt:=top 64
structure Txt(K:W.Frag)(mg:Str->Option Value):Prop where
 isinstance:mg "isinstance"=none
 int:mg "int"=none
 bool:mg "bool"=none
 list:mg "list"=none
 tuple:mg "tuple"=none
 str:mg "str"=none
 len:mg "len"=none
 range:mg "range"=none
 min:mg "min"=none
 max:mg "max"=none
 sum:mg "sum"=none
 sorted:mg "sorted"=none
 reversed:mg "reversed"=none
 zip:mg "zip"=none
variable{P:Program}{w:World}{mg:Str->Option Value}{base:Heap}{a rs:List (Addr×List Int)}{b ip:Bool}{H H' H0 H1 H2:Hp}{p r q q' k' r':Qn}{xs ws vs us:List V}{i j hl:Nat}{Q:V->Prop}{α:Type}{hs ns ss hq hr:List Str}{c:Cond}{x:List Int}{n s:Str}{np l0 rp r0 r1 r2 t d C ah wl dx D al T4:Addr}{th:Str->List Str}{tr:Str->List (List Int)}{sp:Sp}{qv u:V}{ys:List (List Int)}{o:HO}{mk:Qn->Qn->Qn}{E:XK}{R:Addr->VK}
section
variable{K:W.Frag}{f:Addr}{fd:FuncData}
seal PE PA PS PSs PT PI PO PG
local macro_rules | `(tactic| walk_at "s")=>`(tactic| exact⟨rfl,rfl,rfl,by decide +kernel,rfl,by decide +kernel,by decide +kernel⟩)
theorem nb{a b:Str}(h:(a == b)=false):a≠b:=qd h
local macro_rules | `(tactic| walk_at "cn")=>`(tactic| exact⟨by intros;(try dsimp only [z38,Cx.nox,Cx.wish]) <;> exact rfl⟩)
local macro_rules | `(tactic| walk_at "cl")=>`(tactic| first | with_reducible exact zdf | with_reducible exact zbZ | with_reducible exact zbX | with_reducible exact cl_nil4 | with_reducible exact zbJ (by walk_at "ca") (by walk_at "cl") | with_reducible exact zan (by walk_at "ca") (by walk_at "cl") | with_reducible exact z9W (by walk_at "ca") (by walk_at "cl") | with_reducible exact cl_cons4 (by walk_at "ca") (by walk_at "cl") | with_reducible exact zdA (by walk_at "ca") | with_reducible exact zbP (by walk_at "ca") | with_reducible exact zbt (by walk_at "ca") | with_reducible exact cl_one4 (by walk_at "ca"))
local macro_rules | `(tactic| walk_at "ca")=>`(tactic| first | with_reducible exact ze1 (by walk_at "cl") (by walk_at "cl") (by walk_at "cn") | with_reducible exact zcU (by walk_at "cl") (by walk_at "cl") (by walk_at "cn") | with_reducible exact zcT (by walk_at "cl") (by walk_at "cl") (by walk_at "cn") | with_reducible exact ca_if4 (by walk_at "cl") (by walk_at "cl") (by walk_at "cn") | with_reducible exact zd3 (by walk_at "cl") (by walk_at "cl") (by walk_at "cn") | with_reducible exact zbf (by walk_at "cl") (by walk_at "cl") (by walk_at "cn") | with_reducible exact ca_ifJ3 (by walk_at "cl") (by walk_at "cl") (by walk_at "cn") | with_reducible exact ca_ifJ4 (by walk_at "cl") (by walk_at "cl") (by walk_at "cn") | with_reducible exact zaC (by walk_at "cl") (by walk_at "cn") | with_reducible exact z9v (by walk_at "cl") (by walk_at "cn") | with_reducible exact z93 (by walk_at "cl") (by walk_at "cn") | with_reducible exact ca_while4 (by walk_at "cl") (by walk_at "cn") | with_reducible exact zcO (by walk_at "cl") (by walk_at "cn") | with_reducible exact ca_for2 (by walk_at "cl") (by walk_at "cn") | with_reducible exact zbz (by walk_at "cl") (by walk_at "cn") | with_reducible exact ca_for4 (by walk_at "cl") (by walk_at "cn") | walk_at "cn")
def zw{p:Addr}{i:Int}{v:V}(h:H p=some (.lst xs))(e:atI xs i=some v)(q:Q v):∃p' a b v',V.ref p= .ref p'/\V.int i= .int b/\SqL K H p' a/\atI a b=some v'/\Q v':=⟨p,xs,i,v,rfl,rfl,SqL.of h,e,q⟩
def zg{p:Addr}{i:Int}{v:V}(h:H p=some (.tup xs))(e:atI xs i=some v)(q:Q v):∃p' a b v',V.ref p= .ref p'/\V.int i= .int b/\SqT K H p' a/\atI a b=some v'/\Q v':=⟨p,xs,i,v,rfl,rfl,SqT.of h,e,q⟩
def exr{P Q:α->Prop}{a:α}(h:P a)(q:Q a):∃x,P x/\Q x:=⟨a,h,q⟩
local macro_rules|`(!$x)=>`(exr rfl $x)
def ex2{β:Type}{A:α->Prop}{B:β->Prop}{Q:α->β->Prop}{a:α}{b:β}(h1:A a)(h2:B b)(q:Q a b):∃x y,A x/\B y/\Q x y:=⟨a,b,h1,h2,q⟩
theorem z2B(f:α->V)(xs:List α)(lo hi:Option Int):z0A (xs.map f) lo hi=((xs.drop (HT.sIx xs.length 0 lo)).take (HT.sIx xs.length xs.length hi - HT.sIx xs.length 0 lo)).map f:=by
 unfold z0A;rw [w9,w0G,List.map_drop]
inductive spRoom (K:W.Frag) (vs:List V) (H:Hp) (Q:VK) (E:XK):Prop
 | mk:∀a (ns:List Int) few bd,vs= [.ref a,.int few,.int bd]->SqL K H a (ns.map V.int)->ns.length<=63->Q (.int few) H->spRoom K vs H Q E
theorem z5S:FnScope ["_law_script","_law_most","_law_bound"] ["_law_script","_law_most","_law_bound"] (zm z1A):=by walk_at "s"
theorem z64(F:Fun K "_law_room" "_law_room" z1A f fd)(T:Txt K mg):FnOk P w K mg base CX0 1 f fd ["_law_script","_law_most","_law_bound"] (spRoom K):=by
 refine F.okB z5S (λvs H Q E h=> ?_) (λvs H Q E h=> ?_)
 ·obtain⟨a,ns,few,bd,rfl,_⟩:=h
  rfl
 obtain⟨a,ns,few,bd,rfl,b,d,q⟩:=h;intro ac A outer c hr;refine⟨_,(ze (zF (cmT z6g (leN T.len (zf v0 zd)) zb)
   (zh (zt v2))
   zu)
  (zh (zt v1))),?_⟩
 generalize hK0:K=K1
 revert K1
 refine jo (by walk_at "cl") ?_;have hl:(ns.map V.int).length=ns.length:=w9 _;refine !⟨a,!⟨.inl b,ex2 rfl rfl (!?_)⟩⟩;refine ifF (wI (by rw [hl];lia)) ?_;exact !q
theorem za7:("(":Str).length=1:=by decide +kernel
theorem z8G:(")":Str).length=1:=by decide +kernel
theorem z1t:(" ":Str).length=1:=by decide +kernel
theorem zd2:("less":Str).length=4:=by decide +kernel
theorem zcD:("same":Str).length=4:=by decide +kernel
theorem zdP:("not":Str).length=3:=by decide +kernel
theorem zeo:("and":Str).length=3:=by decide +kernel
theorem zex:("or":Str).length=2:=by decide +kernel
theorem zdy:("(pick ":Str).length=6:=by decide +kernel
theorem zd8:("(cols ":Str).length=6:=by decide +kernel
theorem zdm:("(sort ":Str).length=6:=by decide +kernel
theorem zbh:("(first ":Str).length=7:=by decide +kernel
theorem zdG:("(both ":Str).length=6:=by decide +kernel
theorem zd4:("(pair ":Str).length=6:=by decide +kernel
theorem zdq:("(join ":Str).length=6:=by decide +kernel
theorem zbM:("(group ":Str).length=7:=by decide +kernel
theorem zby:("(pick (same ":Str).length=12:=by decide +kernel
theorem zew:(") ":Str).length=2:=by decide +kernel
theorem l_n:("n":Str).length=1:=by decide +kernel
theorem l_s:("s":Str).length=1:=by decide +kernel
theorem zeJ:(" n":Str).length=2:=by decide +kernel
theorem zeA:(" s":Str).length=2:=by decide +kernel
local macro_rules | `(tactic| walk_at "sl")=>`(tactic| (simp only [w0Z,za7,z8G,z1t,zd2,zcD,zdP,zeo,zex,zdy,zd8,zdm,zbh,zdG,zd4,zdq,zbM,zby,zew,l_n,l_s,zeJ,zeA,PySem.sizeLine_eq];try lia))
theorem z8n:∀i∈nums,(toString i:Str).length<=31/\i.natAbs.log2 < 1920:=by decide +kernel
theorem z03:∀i∈z0f,(toString i:Str).length<=31/\i.natAbs.log2 < 1920:=by decide +kernel
theorem z17(hn:∀n∈hs,n.length<=10):∀{a:Side},Side.small hs a->(Side.txt a).length<=31
 | .nm s,h=>wV (hn s h) (by decide)
 | .nu i,h=>(z8n i h).1
theorem yX{hs:List Str}(hn:∀n∈hs,n.length<=10):∀{c:Cond},jy hs c->(yv c).length<=80 * c.size
 | .less a b,h=>by
  have h1:=z17 hn h.1;have h2:=z17 hn h.2;simp only [yv,ends,Cond.size]
  (walk_at "sl")
 | .same a b,h=>by
  have h1:=z17 hn h.1;have h2:=z17 hn h.2;simp only [yv,ends,Cond.size]
  (walk_at "sl")
 | .no c,h=>by
  have h1:=yX hn (c:=c) h;simp only [yv,Cond.size]
  (walk_at "sl")
 | .an c d,h=>by
  have h1:=yX hn (c:=c) h.1;have h2:=yX hn (c:=d) h.2;simp only [yv,Cond.size]
  (walk_at "sl")
 | .or c d,h=>by
  have h1:=yX hn (c:=c) h.1;have h2:=yX hn (c:=d) h.2;simp only [yv,Cond.size]
  (walk_at "sl")
theorem zci:inV (.str "less") [.str "less",.str "same"]=true:=by decide +kernel
theorem zbo:inV (.str "same") [.str "less",.str "same"]=true:=by decide +kernel
theorem zd6:inV (.str "not") [.str "less",.str "same"]=false:=by decide +kernel
theorem zcQ:inV (.str "and") [.str "less",.str "same"]=false:=by decide +kernel
theorem zek:inV (.str "or") [.str "less",.str "same"]=false:=by decide +kernel
noncomputable def wordOf:Cond->Str
 | .less _ _=>"less"
 | .same _ _=>"same"
 | .no _=>"not"
 | .an _ _=>"and"
 | .or _ _=>"or"
noncomputable def subs:Cond->List Cond
 | .no c=> [c]
 | .an c d=> [c,d]
 | .or c d=> [c,d]
 | _=> []
structure Seen(hs:List Str)(H:Hp)(c:Cond)(v:V)(p:Addr)(xs:List V):Prop where
 e:v= .ref p
 h:H p=some (.tup (.str (wordOf c) :: xs))
 lf:inV (.str (wordOf c)) [.str "less",.str "same"]=c.leaf
 sd:c.leaf=true->∃a b,xs= [Side.v a,Side.v b]/\Side.small hs a/\Side.small hs b/\yv c="(" ++ wordOf c ++ " " ++ ends a b ++ ")"/\(c= .less a b\/c= .same a b)
 pt:c.leaf=false->xs.length=(subs c).length/\(∀(i:Nat) x,xs[i]? =some x->∃d,(subs c)[i]? =some d/\zI H d x/\d.size + 1<=c.size/\jy hs d)/\
  yv c="(" ++ wordOf c ++ " " ++ Str.join " " ((subs c).map yv) ++ ")"
theorem seen{v:V}(h:zI H c v)(f:jy hs c):∃p xs,Seen hs H c v p xs:=by
 cases c with
 | less a b=>
  obtain⟨p,rfl,h⟩:=h;exact⟨p,_,rfl,h,zci,λ_=>⟨a,b,rfl,f.1,f.2,rfl,.inl rfl⟩,λz=>(by cases z)⟩
 | same a b=>
  obtain⟨p,rfl,h⟩:=h;exact⟨p,_,rfl,h,zbo,λ_=>⟨a,b,rfl,f.1,f.2,rfl,.inr rfl⟩,λz=>(by cases z)⟩
 | no c=>
  obtain⟨p,x,rfl,h,h1⟩:=h;refine⟨p,_,rfl,h,zd6,λz=>(by cases z),λ_=>⟨rfl,λi y e=> ?_,rfl⟩⟩
  match i,e with
  | 0,e=>cases e;exact⟨c,rfl,h1,ww _,f⟩
 | an c d=>
  obtain⟨p,x,y,rfl,h,h1,h2⟩:=h;refine⟨p,_,rfl,h,zcQ,λz=>(by cases z),λ_=>⟨rfl,λi y e=> ?_,rfl⟩⟩
  match i,e with
  | 0,e=>cases e;exact⟨c,rfl,h1,by simp only [Cond.size];lia,f.1⟩
  | 1,e=>cases e;exact⟨d,rfl,h2,by simp only [Cond.size];lia,f.2⟩
 | or c d=>
  obtain⟨p,x,y,rfl,h,h1,h2⟩:=h;refine⟨p,_,rfl,h,zek,λz=>(by cases z),λ_=>⟨rfl,λi y e=> ?_,rfl⟩⟩
  match i,e with
  | 0,e=>cases e;exact⟨c,rfl,h1,by simp only [Cond.size];lia,f.1⟩
  | 1,e=>cases e;exact⟨d,rfl,h2,by simp only [Cond.size];lia,f.2⟩
theorem z75{a:Side}(b:Side.small hs a):z9I (Side.v a) (Side.txt a):=by
 cases a with
 | nm s=>exact .inr rfl
 | nu i=>exact .inl ⟨i,rfl,(z8n i b).2,rfl⟩
theorem z46(x:V)(r:List V):z0A (x :: r) (some 1) none=r:=by
 unfold z0A;rw [show HT.sIx (x :: r).length 0 (some 1)=1 by unfold HT.sIx;simp];rw [HT.sIx_none,List.drop_succ_cons,w13,wJ,Nat.add_sub_cancel,qB]
theorem z4F{x:V}{r:List V}:¬(HT.sIx (x :: r).length 0 (some 1)=0/\HT.sIx (x :: r).length (x :: r).length none=(x :: r).length):=by
 rw [show HT.sIx (x :: r).length 0 (some 1)=1 by unfold HT.sIx;simp];rintro⟨z,_⟩;cases z
theorem z86(c:Cond):(subs c).length<=2:=by cases c <;> simp [subs]
theorem zcF(c:Cond):(((subs c).map yv).map (·.length)).sum + ((subs c).map yv).length * 1<=(Str.join " " ((subs c).map yv)).length + 1:=by
 cases c with
 | less a b=>simp [subs]
 | same a b=>simp [subs]
 | no c=>simp [subs,Str.join]
 | an c d=>
  simp only [subs,wR,qO,Str.join,w0Z,z1t,qR,Q6,wJ,Qe]
  lia
 | or c d=>
  simp only [subs,wR,qO,Str.join,w0Z,z1t,qR,Q6,wJ,Qe]
  lia
inductive spSpelt (K:W.Frag) (n:Nat) (vs:List V) (H:Hp) (Q:VK) (E:XK):Prop
 | mk:∀v hs c,vs= [v]->zI H c v->jy hs c->(∀n∈hs,n.length<=10)->c.size<=n->c.size<=1000->(∀H',zz H H'->Q (.str (yv c)) H')->spSpelt K n vs H Q E
theorem z0N:FnScope ["_law_condition","_law_ends","_law_parts"] ["_law_condition"] (zm ko):=by walk_at "s"
theorem z3v(F:Fun K "_law_spelt" "_law_spelt" ko f fd)(T:Txt K mg)(n:Nat)(e:Kn P w K mg base n "_law_spelt" ["_law_condition"] (spSpelt K n)):FnOk P w K mg base CX0 (n + 1) f fd ["_law_condition"] (spSpelt K (n + 1)):=by
 refine F.okB z0N (λvs H Q E h=> ?_) (λvs H Q E h=> ?_)
 ·obtain⟨v,hs,c,rfl,_⟩:=h
  rfl
 obtain⟨v,hs,c,rfl,hc,s,hn,hsz,M,q⟩:=h;obtain⟨p,xs,rfl,hp,lf,sd,pt⟩:=seen hc s;have wl:(wordOf c).length<=4:=by cases c <;> simp only [wordOf] <;> decide +kernel
 intro ac A outer O hr;refine⟨_,(ze (zF (jR jO (ixT v0 zb) (zx (zo zi (zo zi zd))) (by with_unfolding_all rfl))
   (ze (seT 1 z0N (zr zp (zr zp (je z23 rfl T.str qX (zl (ixT v0 zb) zd)) zi) (je z23 rfl T.str qX (zl (ixT v0 zb) zd))))
   (zh (zt (zr zp (zr zp (zr zp (zr zp zi (ixT v0 zb)) zi) v1) zi))))
   zu)
  (ze (jH (j:=2) rfl z0N.nd rfl (QV rfl) (CompSc.of (sx:=zm ko) (NX:= ["_law_condition","_law_ends","_law_parts"]) (fr:= []) (ix:= []) rfl rfl (by decide +kernel)) (z31 (j8 z0R v0 (jn zb) jx)) (λ_ _ _ _ _ _=>jM) (λ_ _ _ _ _ _=>(zV e hr.m (zf v0 zd))))
  (zh (zt (zr zp (zr zp (zr zp (zr zp zi (ixT v0 zb)) zi) (z1v PySem.F.plainAttrs_str PySem.F.slot_str_join PySem.F.type_str_join z8u zi (zf v2 zd))) zi))))),?_⟩
 generalize hK0:K=K1
 revert K1
 refine jo (by walk_at "cl") ?_;refine⟨_,rfl,p,_,_,_,rfl,rfl,SqT.of hp,zD,(zq rfl),λlp G=> ?_⟩;have a1:=zJ G (.lst [V.str "less",V.str "same"]);have r:=a1 _ _ hp;refine⟨lp,_,rfl,.inl (SqL.of zj),rfl,(by rfl),_,rfl,?_⟩;dsimp -proj only;rw [wM wQ,lf];cases bt:c.leaf with
 | true=>
  obtain⟨a,b,rfl,sa,o,es,_⟩:=sd bt;have la:=z17 hn sa;have lb:=z17 hn o;refine ifT rfl ?_;refine⟨_,rfl,p,_,_,_,rfl,rfl,SqT.of r,jc,_,_,rfl,z75 sa,_,_,rfl,rfl,by(walk_at "sl"),_,rfl,p,_,_,_,rfl,rfl,SqT.of r,ji,_,_,rfl,z75 o,_,_,rfl,rfl,by(walk_at "sl"),?_⟩;refine⟨_,rfl,p,_,_,_,rfl,rfl,SqT.of r,zD,_,_,rfl,rfl,by(walk_at "sl"),_,_,rfl,rfl,by(walk_at "sl"),_,rfl,_,_,rfl,rfl,by(walk_at "sl"),_,_,rfl,rfl,by(walk_at "sl"),?_⟩;have:=q _ a1;rw [es]at this;exact this
 | false=>
  obtain⟨hl,J,es⟩:=pt bt;refine ifF rfl ?_;have sl2:=z86 c;refine⟨_,rfl,_,rfl,p,_,rfl,SqT.of r,z4F,λcp y=> ?_⟩;rw [z46];have a2:=a1.trans (zJ y (.tup xs));have t:upd (upd H lp (.lst [V.str "less",V.str "same"])) cp (.tup xs) cp=some (.tup xs):=zj;refine⟨cp,rfl,⟨_,SqT.of t⟩,?_⟩;refine z5j (xs:=xs) (λi ys H'=>zz (upd (upd H lp (.lst [V.str "less",V.str "same"])) cp (.tup xs)) H'/\ys=((subs c).take i).map λd=>V.str (yv d)) ⟨zz.refl _,rfl⟩ ?_ ?_ ?_
  ·rintro i ys H' hi ⟨l,rfl⟩;exact⟨SqT.of (l _ _ t),zG (by rw [w9,wS];lia)⟩
  ·rintro i x ys H' hi ⟨l,rfl⟩;obtain⟨d,hd,C,R,D⟩:=J i x hi;refine⟨_,rfl,x,hs,d,rfl,C.same (a2.trans l),D,hn,by lia,by lia,λN I=>⟨l.trans I,?_⟩⟩;rw [q9,hd,wC]
   rfl
  ·rintro ys H' ⟨l,rfl⟩ rp z;rw [hl,qB];have u:=a2.trans (l.trans (zJ z (.lst ((subs c).map λd=>V.str (yv d)))));have L:=u _ _ hp;have B:((subs c).map λd=>V.str (yv d))=((subs c).map yv).map V.str:=by rw [w0U];rfl
   have o:=yX hn s;rw [es]at o;simp only [w0Z,za7,z8G,z1t]at o;refine⟨_,rfl,p,_,_,_,rfl,rfl,SqT.of L,zD,_,_,rfl,rfl,by(walk_at "sl"),_,_,rfl,rfl,by(walk_at "sl"),rfl,_,rfl,_,_,(subs c).map yv,rfl,rfl,SqL.of (by rw [<-B];exact zj),?_,_,_,rfl,rfl,by(walk_at "sl"),_,_,rfl,rfl,by(walk_at "sl"),?_⟩
   ·have:=zcF c;simp only [z1t]
    lia
   ·have:=q _ u;rw [es]at this;exact this
theorem z2e(F:Fun K "_law_spelt" "_law_spelt" ko f fd)(T:Txt K mg)(a:∀k sp,FnOk P w K mg base CX0 k f fd ["_law_condition"] sp->Kn P w K mg base k "_law_spelt" ["_law_condition"] sp):∀n,FnOk P w K mg base CX0 n f fd ["_law_condition"] (spSpelt K n)
 | 0=>⟨λvs H Q E h=>by obtain⟨v,hs,c,rfl,_⟩:=h;rfl,λA outer s H args us vs Q E hr b d e h=>by
  obtain⟨v,hs,c,_,_,_,_,hz,_⟩:=h;have:=c.size_pos
  lia⟩
 | n + 1=>z3v F T n (a n _ (z2e F T a n))
inductive spTrue (K:W.Frag) (n:Nat) (vs:List V) (H:Hp) (Q:VK) (E:XK):Prop
 | mk:∀v hp rp hs (rs:List Int) c,vs= [v,.ref hp,.ref rp]->zI H c v->jy hs c->H hp=some (.lst (hs.map V.str))->H rp=some (.lst (rs.map V.int))->rs.length=hs.length->c.size<=n->(∀H',zz H H'->Q (.bl (ev hs rs c)) H')->spTrue K n vs H Q E
theorem zbQ:decide (V.str "same"=V.str "less")=false:=by decide +kernel
theorem zc9:decide (V.str "and"=V.str "not")=false:=by decide +kernel
theorem zbx:decide (V.str "or"=V.str "not")=false:=by decide +kernel
theorem zee:decide (V.str "and"=V.str "or")=false:=by decide +kernel
theorem kB:FnScope ["_law_condition","_law_heads","_law_row","_law_word","_law_sides","_law_part","_law_told"] ["_law_condition","_law_heads","_law_row"] (zm z00):=by walk_at "s"
theorem z4d(F:Fun K "_law_true" "_law_true" z00 f fd)(T:Txt K mg)(n:Nat)(e:Kn P w K mg base n "_law_true" ["_law_condition","_law_heads","_law_row"] (spTrue K n)):FnOk P w K mg base CX0 (n + 1) f fd ["_law_condition","_law_heads","_law_row"] (spTrue K (n + 1)):=by
 refine F.okB kB (λvs H Q E h=> ?_) (λvs H Q E h=> ?_)
 ·obtain⟨v,hp,rp,hs,rs,c,rfl,_⟩:=h
  rfl
 obtain⟨v,hp,rp,hs,rs,c,rfl,hc,sm,J,D,R,hsz,q⟩:=h;obtain⟨p,xs,rfl,X,lf,sd,pt⟩:=seen hc sm;intro ac A outer sh hr;refine⟨_,(ze (seT 3 kB (ixT v0 zb))
  (ze (zF (jR jO v3 (zx (zo zi (zo zi zd))) (by with_unfolding_all rfl))
   (ze (seT 4 kB (zx zd))
   (ze (foR (z31 (j8 z0R v0 (jn zb) jx)) (gnM 5 kB)
    (zh (zF (jq (zQ j6 rfl T.isinstance wX (zf v5 (zf (yn (v:= .ty "str") rfl T.str qX rfl) zd))))
     (zh (jg (apP v4 (zl (ixL v2 (z1v qj Q8 Qj z0z v1 (zf v5 zd))) zd))))
     (zh (jg (apP v4 (zf v5 zd)))))))
   (ze (zF (cmT zK v3 zi)
    (zh (zt (cmE z5p (ixL v4 zb) (ixL v4 zb))))
    zu)
   (zh (zt (cmE zK (ixL v4 zb) (ixL v4 zb)))))))
   zu)
  (ze (jH (j:=6) rfl kB.nd rfl (QV rfl) (CompSc.of (sx:=zm z00) (NX:= ["_law_condition","_law_heads","_law_row","_law_word","_law_sides","_law_part","_law_told"]) (fr:= ["_law_heads","_law_row"]) (ix:= [1,2]) rfl rfl (by decide +kernel)) (z31 (j8 z0R v0 (jn zb) jx)) (λ_ _ _ _ _ _=>jM) (λ_ _ _ _ _ _=>(zV e hr.m (zf v0 (zf v1 (zf v2 zd))))))
  (ze (zF (cmT zK v3 zi)
   (zh (zt (z9K (ixL (pv 6) zb))))
   zu)
  (ze (zF (cmT zK v3 zi)
   (zh (zt (z3N jO yt (pv 6) (by with_unfolding_all rfl))))
   zu)
  (zh (zt (z3N yH yt (pv 6) (by with_unfolding_all rfl))))))))),?_⟩
 generalize hK0:K=K1
 revert K1
 refine jo (by walk_at "cl") ?_;refine !(zg X zD ?_);refine !⟨(zq rfl),λlp ae=> ?_⟩;have a1:=zJ ae (.lst [V.str "less",V.str "same"]);refine⟨lp,!⟨.inl (SqL.of zj),rfl,(by rfl),!?_⟩⟩;generalize upd H lp (.lst [V.str "less",V.str "same"])=H1 at a1 ⊢;have G:=a1 _ _ X;have eY:=a1 _ _ J;have ff:=a1 _ _ D;rw [wM wQ,lf];cases bt:c.leaf with
 | true=>
  obtain⟨a,b,rfl,sa,sb,_,cX⟩:=sd bt;refine ifT rfl ?_;refine⟨(zq rfl),λsp S=> ?_⟩;have b1:=zJ S (.lst []);have bD:=b1 _ _ G;refine !(!⟨p,!⟨SqT.of bD,z4F,λcp z=> ?_⟩⟩);rw [z46];have b2:=b1.trans (zJ z (.tup [Side.v a,Side.v b]));have N:cp≠sp:=(zy zj z).symm;have C:upd (upd H1 sp (.lst [])) cp (.tup [Side.v a,Side.v b]) sp=some (.lst []):=by rw [zn N.symm];exact zj
  have o:upd (upd H1 sp (.lst [])) cp (.tup [Side.v a,Side.v b]) cp=some (.tup [Side.v a,Side.v b]):=zj;generalize upd (upd H1 sp (.lst [])) cp (.tup [Side.v a,Side.v b])=H2 at b2 C o ⊢;refine⟨cp,rfl,⟨_,SqT.of o⟩,z5X (K:=K) (a:=cp) (xs:= [Side.v a,Side.v b]) (λi σ H'=>∃y:Option V,σ= [some (.ref p),some (.ref hp),some (.ref rp),some (.str (wordOf c)),some (.ref sp),y,none]/\zz H1 H'/\H' cp=some (.tup [Side.v a,Side.v b])/\H' sp=some (.lst (([num hs rs a,num hs rs b].take i).map V.int)))
   ⟨none,rfl,b2,o,C⟩ (λi σ H' _ ⟨_,_,_,h,_⟩=>SqT.of h) ?_ ?_⟩
  ·rintro i x σ H' hi ⟨y,rfl,s',U,l⟩;have key:∃d:Side,x=Side.v d/\Side.small hs d/\ [num hs rs a,num hs rs b].take (i + 1)= [num hs rs a,num hs rs b].take i ++ [num hs rs d]:=by
    match i,hi with
    | 0,hi=>cases hi;exact⟨a,rfl,sa,rfl⟩
    | 1,hi=>cases hi;exact⟨b,rfl,sb,rfl⟩
   obtain⟨d,rfl,M,Y⟩:=key;have O:=s' _ _ eY;have ci:=s' _ _ ff;have fin:∃y:Option V,([some (.ref p),some (.ref hp),some (.ref rp),some (.str (wordOf c)),some (.ref sp),some (Side.v d),none]:List (Option V))= [some (.ref p),some (.ref hp),some (.ref rp),some (.str (wordOf c)),some (.ref sp),y,none]/\zz H1 (upd H' sp (.lst ((([num hs rs a,num hs rs b].take i).map V.int) ++ [V.int (num hs rs d)])))/\
     upd H' sp (.lst ((([num hs rs a,num hs rs b].take i).map V.int) ++ [V.int (num hs rs d)])) cp=some (.tup [Side.v a,Side.v b])/\upd H' sp (.lst ((([num hs rs a,num hs rs b].take i).map V.int) ++ [V.int (num hs rs d)])) sp=some (.lst (([num hs rs a,num hs rs b].take (i + 1)).map V.int)):=
    (!⟨s'.put S,by rw [zn N];exact U,by rw [zj,Y,wC];rfl⟩)
   have I:((([num hs rs a,num hs rs b].take i).map V.int)).length < sizeLine:=zG (by rw [w9,wS];simp only [wJ,Qe];lia);cases d with
   | nm s=>
    refine !⟨_,_,_,!⟨TyOf.str s,jZ,!?_⟩⟩;refine ifT rfl ?_;have bV:hs.idxOf s < rs.length:=by rw [R];exact qP.mpr M
    have B:=yT M;refine !⟨.inl ⟨rfl,_,SqL.of l⟩,!(!⟨.inl ⟨rfl,_,SqL.of O⟩,!⟨hp,_,_,hs.idxOf s,rfl,rfl,SqL.of O,rfl,jd hs,B.1,B.2,zw ci (zX (int_at bV)) ⟨sp,ex2 rfl rfl ⟨l,I,?_⟩⟩⟩⟩)⟩;exact fin
   | nu k=>
    refine !⟨_,_,_,!⟨TyOf.int k,z1O,!?_⟩⟩;refine ifF rfl ?_;refine !⟨.inl ⟨rfl,_,SqL.of l⟩,!⟨sp,ex2 rfl rfl ⟨l,I,?_⟩⟩⟩;exact fin
  ·rintro σ H' ⟨y,rfl,s',U,l⟩;refine !⟨rfl,!?_⟩;have u:=q _ (a1.trans s');rcases cX with rfl | rfl
   ·refine ifT rfl ?_;exact !(zw l zD (!(zw l jc (ex2 rfl rfl u))))
   ·refine ifF zbQ ?_;exact !(zw l zD (!(zw l jc ⟨rfl,qbl z40 u⟩)))
 | false=>
  obtain⟨hl,nN,es⟩:=pt bt;refine ifF rfl ?_;have sl2:=z86 c;refine !(!⟨p,!⟨SqT.of G,z4F,λcp z=> ?_⟩⟩);rw [z46];have a2:=zJ z (.tup xs);have o:upd H1 cp (.tup xs) cp=some (.tup xs):=zj;generalize upd H1 cp (.tup xs)=H2 at a2 o ⊢;refine⟨cp,rfl,⟨_,SqT.of o⟩,?_⟩;refine z5j (xs:=xs) (λi ys H'=>zz H2 H'/\ys=((subs c).take i).map λd=>V.bl (ev hs rs d)) ⟨zz.refl _,rfl⟩ ?_ ?_ ?_
  ·rintro i ys H' hi ⟨r,rfl⟩;exact⟨SqT.of (r _ _ o),zG (by rw [w9,wS];lia)⟩
  ·rintro i x ys H' hi ⟨r,rfl⟩;obtain⟨d,hd,aB,nO,nP⟩:=nN i x hi;have t:=a1.trans (a2.trans r);refine !(!(!⟨x,hp,rp,hs,rs,d,rfl,aB.same t,nP,t _ _ J,t _ _ D,R,by lia,λH3 s3=>⟨r.trans s3,?_⟩⟩));rw [q9,hd,wC]
   rfl
  ·rintro ys H' ⟨r,rfl⟩ tp Z;rw [hl,qB];have a3:=a1.trans (a2.trans (r.trans (zJ Z (.lst ((subs c).map λd=>V.bl (ev hs rs d))))));have u:=q _ a3;have L:((subs c).map λd=>V.bl (ev hs rs d)).all yM=true:=by
    rw [List.all_map,qH];intro d _
    rfl
   refine !⟨rfl,!?_⟩;cases c with
   | less a b=>cases bt
   | same a b=>cases bt
   | no c=>
    refine ifT rfl ?_;exact !(zw zj zD (!u))
   | an c d=>
    refine ifF zc9 ?_;refine !⟨rfl,!?_⟩;refine ifF zee ?_;refine !⟨tp,!⟨.inl (SqL.of zj),rfl,L,qbl ?_ u⟩⟩
    show(not (inV (V.bl false) [V.bl (ev hs rs c),V.bl (ev hs rs d)]))=(ev hs rs c && ev hs rs d)
    cases ev hs rs c <;> cases ev hs rs d <;> rfl
   | or c d=>
    refine ifF zbx ?_;refine !⟨rfl,!?_⟩;refine ifT rfl ?_;refine !⟨tp,!⟨.inl (SqL.of zj),rfl,L,qbl ?_ u⟩⟩
    show inV (V.bl true) [V.bl (ev hs rs c),V.bl (ev hs rs d)]=(ev hs rs c || ev hs rs d)
    cases ev hs rs c <;> cases ev hs rs d <;> rfl
theorem z2Q(F:Fun K "_law_true" "_law_true" z00 f fd)(T:Txt K mg)(a:∀k sp,FnOk P w K mg base CX0 k f fd ["_law_condition","_law_heads","_law_row"] sp->Kn P w K mg base k "_law_true" ["_law_condition","_law_heads","_law_row"] sp):∀n,FnOk P w K mg base CX0 n f fd ["_law_condition","_law_heads","_law_row"] (spTrue K n)
 | 0=>⟨λvs H Q E h=>by obtain⟨v,hp,rp,hs,rs,c,rfl,_⟩:=h;rfl,λA outer s H args us vs Q E hr b d e h=>by
  obtain⟨v,hp,rp,hs,rs,c,_,_,_,_,_,_,hz,_⟩:=h;have:=c.size_pos
  lia⟩
 | n + 1=>z4d F T n (a n _ (z2Q F T a n))
theorem z7A{xs:List α}{i:Int}(h0:0<=i)(h1:i < (xs.length:Int)):∃(h:i.toNat < xs.length),atI xs i=some xs[i.toNat]:=by
 have h:i.toNat < xs.length:=by lia
 exact⟨h,zbp h0 (wa h)⟩
theorem z1n{i n:Int}(h:0 < n):0<=i % n/\i % n < n:=⟨Int.emod_nonneg _ (by lia),Int.emod_lt_of_pos _ h⟩
theorem zcH{i:Int}(h0:0<=i)(h1:i < 6):∃m∈nums,atI (nums.map V.int) i=some (.int m):=by
 obtain⟨h,e⟩:=z7A (xs:=nums.map V.int) h0 (by show i < 6;exact h1);refine⟨nums[i.toNat]'(by simpa using h),wG _,?_⟩;rw [e,List.getElem_map]
theorem z1s{i:Int}(c:hs≠ []):∃s∈hs,atI (hs.map V.str) (i % (((hs.map V.str).length:Nat):Int))=some (.str s):=by
 have hl:0 < hs.length:=QN.mpr c;have hm:(0:Int) < (((hs.map V.str).length:Nat):Int):=by rw [w9];lia
 obtain⟨a,b⟩:=z1n (i:=i) hm;obtain⟨h,e⟩:=z7A (xs:=hs.map V.str) a b;refine⟨hs[(i % (((hs.map V.str).length:Nat):Int)).toNat]'(by simpa using h),wG _,?_⟩;rw [e,List.getElem_map]
inductive spAsking (K:W.Frag) (vs:List V) (H:Hp) (Q:VK) (E:XK):Prop
 | mk:∀hp a7 (hs:List Str),vs= [.ref hp,.int a7]->H hp=some (.lst (hs.map V.str))->hs≠ []->(∀(v:V) (c:Cond) (H':Hp),zz H H'->zI H' c v->jy hs c->c.size<=5->Q v H')->spAsking K vs H Q E
theorem jf:FnScope ["_law_heads","_law_seed","_law_one","_law_other","_law_number","_law_first","_law_second","_law_menu"] ["_law_heads","_law_seed"] (zm z0W):=by walk_at "s"
theorem z49(F:Fun K "_law_asking" "_law_asking" z0W f fd)(T:Txt K mg):FnOk P w K mg base CX0 1 f fd ["_law_heads","_law_seed"] (spAsking K):=by
 refine F.okB jf (λvs H Q E h=> ?_) (λvs H Q E h=> ?_)
 ·obtain⟨hp,a7,hs,rfl,_⟩:=h
  rfl
 obtain⟨hp,a7,hs,rfl,hh,aq,q⟩:=h;have hlen:(0:Int) < (((hs.map V.str).length:Nat):Int):=by
  have:=QN.mpr aq;rw [w9];lia
 have tl:∀(x:Nat),x<=20->x<=sizeLine:=λx h=>ja (by lia)
 obtain⟨one,m1,e1⟩:=z1s (i:=a7) aq;obtain⟨other,m2,e2⟩:=z1s (i:=a7 / 3 + 1) aq;obtain⟨num,m3,e3⟩:=zcH (z1n (i:=a7 / 2) (n:=6) (by decide)).1 (z1n (i:=a7 / 2) (n:=6) (by decide)).2;intro ac A outer sh hr;refine⟨_,(ze (seT 2 jf (ixL v0 (zr zS v1 (leN T.len (zf v0 zd)))))
  (ze (seT 3 jf (ixL v0 (zr zS (zr kh (zr yb v1 zb) zb) (leN T.len (zf v0 zd)))))
  (ze (seT 4 jf (ixL (zx (zo zb (zo zb (zbD (k8 yl zb) (zo zb (yo (z3G ⟨by decide,by decide,by decide⟩) (zo zb zd))))))) (zr zS (zr yb v1 zb) zb)))
  (ze (seT 5 jf (zC (zo zi (zf v2 (zf v4 zd)))))
  (ze (seT 6 jf (zC (zo zi (zf v2 (zf v3 zd)))))
  (ze (seT 7 jf (zx (zf v5 (zf (pv 6) (zH (zC (zo zi (zH (zC (zo zi (zf v3 (zf v4 zd)))) (zH (zC (zo zi (zf v5 zd))) zd)))) zd)))))
  (ze (seT 7 jf (zr ke (pv 7) (zx (zH (zC (zo zi (zf v5 (zf (pv 6) zd)))) (zH (zC (zo zi (zH (zC (zo zi (zf v4 (zf v3 zd)))) zd))) zd)))))
  (ze (seT 7 jf (zr ke (pv 7) (zx (zH (zC (zo zi (zH (zC (zo zi (zf v2 (zf v3 zd)))) (zH (zC (zo zi (zf (pv 6) (zf v5 zd)))) zd)))) zd))))
  (ze (seT 7 jf (zr ke (pv 7) (zx (zH (zC (zo zi (zf v4 (zo zb zd)))) (zf (pv 6) (zH (zC (zo zi (zf (pv 6) (zf v5 zd)))) zd))))))
  (zh (zt (ixL (pv 7) (zr zS (zr yb v1 zb) zb))))))))))))),?_⟩
 generalize hK0:K=K1
 revert K1
 refine jo (by walk_at "cl") ?_;refine !(!(!⟨hp,!⟨.inl (SqL.of hh),_,!⟨rfl,hlen,zw hh e1 ?_⟩⟩⟩));refine !(!⟨_,!⟨rfl,⟨by decide,by decide⟩,_,!⟨rfl,!⟨hp,!⟨.inl (SqL.of hh),_,!⟨rfl,hlen,zw hh e2 ?_⟩⟩⟩⟩⟩⟩);refine !⟨tl 6 (by decide),λl0 f0=> ?_⟩;refine zc (upd _ l0 _) rfl f0 λH0 n0 x0=> ?_
 replace x0:H0 l0=some (.lst (nums.map V.int)):=x0;refine !⟨_,!⟨rfl,⟨by decide,by decide⟩,_,!⟨rfl,(by show(0:Int) < 6;decide),l0,nums.map V.int,_,!⟨rfl,SqL.of x0,e3,?_⟩⟩⟩⟩;refine !(!⟨tl _ (by simp),λpF f1=> ?_⟩);refine zc (upd _ pF _) rfl f1 λH1 n1 x1=> ?_
 refine !(!⟨tl _ (by simp),λpS f2=> ?_⟩);refine zc (upd _ pS _) rfl f2 λH2 n2 x2=> ?_
 refine !(!(!(!⟨tl _ (by simp),λp3 f3=> ?_⟩)));refine zc (upd _ p3 _) rfl f3 λH3 n3 x3=> ?_
 refine !⟨tl _ (by simp),λp4 f4=> ?_⟩;refine zc (upd _ p4 _) rfl f4 λH4 n4 x4=> ?_
 refine⟨tl _ (by simp),λp5 f5=> ?_⟩;refine zc (upd _ p5 _) rfl f5 λH5 Z x5=> ?_
 refine⟨tl _ (by simp),λl6 f6=> ?_⟩;refine zc (upd _ l6 _) rfl f6 λH6 C x6=> ?_
 refine !(!(!⟨tl _ (by simp),λp7 f7=> ?_⟩));refine zc (upd _ p7 _) rfl f7 λH7 B x7=> ?_
 refine !(!⟨tl _ (by simp),λp8 f8=> ?_⟩);refine zc (upd _ p8 _) rfl f8 λH8 z x8=> ?_
 refine⟨tl _ (by simp),λp9 f9=> ?_⟩;refine zc (upd _ p9 _) rfl f9 λH9 u x9=> ?_
 refine⟨tl _ (by simp),λD nQ=> ?_⟩;refine zc (upd _ D _) rfl nQ λaC r M=> ?_
 refine⟨l6,D,_,!⟨rfl,(r _ _ (u _ _ (z _ _ (B _ _ x6)))),M,tl _ (by simp),λU nR=> ?_⟩⟩;refine zc (upd _ U _) rfl nR λaA s Y=> ?_
 refine !(!(!⟨tl _ (by simp),λar nS=> ?_⟩));refine zc (upd _ ar _) rfl nS λax n12 ad=> ?_
 refine !(!⟨tl _ (by simp),λas nU=> ?_⟩);refine zc (upd _ as _) rfl nU λaB p av=> ?_
 refine⟨tl _ (by simp),λam nV=> ?_⟩;refine zc (upd _ am _) rfl nV λaF o ag=> ?_
 refine⟨tl _ (by simp),λO nW=> ?_⟩;refine zc (upd _ O _) rfl nW λaz j N=> ?_
 refine⟨U,O,_,!⟨rfl,(j _ _ (o _ _ (p _ _ (n12 _ _ Y)))),N,tl _ (by simp),λS nX=> ?_⟩⟩;refine zc (upd _ S _) rfl nX λaw l I=> ?_
 refine !(!⟨tl _ (by simp),λaj nY=> ?_⟩);refine zc (upd _ aj _) rfl nY λaG e ae=> ?_
 refine !(!(!⟨tl _ (by simp),λap nZ=> ?_⟩));refine zc (upd _ ap _) rfl nZ λaE d ao=> ?_
 refine⟨tl _ (by simp),λG o0=> ?_⟩;refine zc (upd _ G _) rfl o0 λaD a R=> ?_
 refine⟨S,G,_,!⟨rfl,(a _ _ (d _ _ (e _ _ I))),R,tl _ (by simp),λau oa=> ?_⟩⟩;refine zc (upd _ au _) rfl oa λJ b c=> ?_
 have y1:=(b _ _ (a _ _ (d _ _ (e _ _ (l _ _ (j _ _ (o _ _ (p _ _ (n12 _ _ (s _ _ (r _ _ (u _ _ (z _ _ (B _ _ (C _ _ (Z _ _ (n4 _ _ (n3 _ _ (n2 _ _ x1)))))))))))))))))));have y2:=(b _ _ (a _ _ (d _ _ (e _ _ (l _ _ (j _ _ (o _ _ (p _ _ (n12 _ _ (s _ _ (r _ _ (u _ _ (z _ _ (B _ _ (C _ _ (Z _ _ (n4 _ _ (n3 _ _ x2))))))))))))))))));have y3:=(b _ _ (a _ _ (d _ _ (e _ _ (l _ _ (j _ _ (o _ _ (p _ _ (n12 _ _ (s _ _ (r _ _ (u _ _ (z _ _ (B _ _ (C _ _ (Z _ _ (n4 _ _ x3)))))))))))))))));have y4:=(b _ _ (a _ _ (d _ _ (e _ _ (l _ _ (j _ _ (o _ _ (p _ _ (n12 _ _ (s _ _ (r _ _ (u _ _ (z _ _ (B _ _ (C _ _ (Z _ _ x4))))))))))))))));have y5:=(b _ _ (a _ _ (d _ _ (e _ _ (l _ _ (j _ _ (o _ _ (p _ _ (n12 _ _ (s _ _ (r _ _ (u _ _ (z _ _ (B _ _ (C _ _ x5)))))))))))))));have y6:=(b _ _ (a _ _ (d _ _ (e _ _ (l _ _ (j _ _ (o _ _ (p _ _ (n12 _ _ (s _ _ (r _ _ (u _ _ (z _ _ (B _ _ x6))))))))))))));have y7:=(b _ _ (a _ _ (d _ _ (e _ _ (l _ _ (j _ _ (o _ _ (p _ _ (n12 _ _ (s _ _ (r _ _ (u _ _ (z _ _ x7)))))))))))));have y8:=(b _ _ (a _ _ (d _ _ (e _ _ (l _ _ (j _ _ (o _ _ (p _ _ (n12 _ _ (s _ _ (r _ _ (u _ _ x8))))))))))));have y9:=(b _ _ (a _ _ (d _ _ (e _ _ (l _ _ (j _ _ (o _ _ (p _ _ (n12 _ _ (s _ _ (r _ _ x9)))))))))));have rQ:=(b _ _ (a _ _ (d _ _ (e _ _ (l _ _ (j _ _ (o _ _ (p _ _ (n12 _ _ (s _ _ M))))))))));have rR:=(b _ _ (a _ _ (d _ _ (e _ _ (l _ _ (j _ _ (o _ _ (p _ _ (n12 _ _ Y)))))))));have oe:=(b _ _ (a _ _ (d _ _ (e _ _ (l _ _ (j _ _ (o _ _ (p _ _ ad))))))));have og:=(b _ _ (a _ _ (d _ _ (e _ _ (l _ _ (j _ _ (o _ _ av)))))));have oh:=(b _ _ (a _ _ (d _ _ (e _ _ (l _ _ (j _ _ ag))))));have Cr:=(b _ _ (a _ _ (d _ _ (e _ _ (l _ _ N)))));have Cs:=(b _ _ (a _ _ (d _ _ (e _ _ I))));have vw:=(b _ _ (a _ _ (d _ _ ae)));have vx:=(b _ _ (a _ _ ao));have Ct:=(b _ _ R);have y:=n0.trans (n1.trans (n2.trans (n3.trans (n4.trans (Z.trans (C.trans (B.trans (z.trans (u.trans (r.trans (s.trans (n12.trans (p.trans (o.trans (j.trans (l.trans (e.trans (d.trans (a.trans (b))))))))))))))))))));have cF:zI J (.less (.nm one) (.nu num)) (.ref pF):=⟨pF,rfl,y1⟩;have X:zI J (.same (.nm one) (.nm other)) (.ref pS):=⟨pS,rfl,y2⟩;have L:jy hs (.less (.nm one) (.nu num)):=⟨m1,m3⟩;have okS:jy hs (.same (.nm one) (.nm other)):=⟨m1,m2⟩;have oi:(1:Int)∈nums:=by decide +kernel
 obtain⟨i0,i1⟩:=z1n (i:=a7 / 5) (n:=9) (by decide);refine !(!⟨_,!⟨rfl,⟨by decide,by decide⟩,_,!⟨rfl,(by show(0:Int) < 9;decide),?_⟩⟩⟩);obtain⟨ix,t⟩:∃ix,a7 / 5 % 9=ix:=⟨_,rfl⟩
 rw [t]at i0 i1;have fT:ix=0\/ix=1\/ix=2\/ix=3\/ix=4\/ix=5\/ix=6\/ix=7\/ix=8:=by lia
 rcases fT with rfl | rfl | rfl | rfl | rfl | rfl | rfl | rfl | rfl
 ·exact zw c (by show atI _ (a7 / 5 % 9)=_;rw [t];rfl) (q _ _ _ y cF L (by simp [Cond.size]))
 ·exact zw c (by show atI _ (a7 / 5 % 9)=_;rw [t];rfl) (q _ _ _ y X okS (by simp [Cond.size]))
 ·exact zw c (by show atI _ (a7 / 5 % 9)=_;rw [t];rfl) (q _ (.an (.same (.nm other) (.nu num)) (.no (.less (.nm one) (.nu num)))) _ y ⟨_,_,!⟨y5,(!y3),⟨_,!⟨y4,cF⟩⟩⟩⟩ ⟨⟨m2,m3⟩,L⟩ (by simp only [Cond.size];decide))
 ·exact zw c (by show atI _ (a7 / 5 % 9)=_;rw [t];rfl) (q _ (.or (.less (.nm one) (.nu num)) (.same (.nm one) (.nm other))) _ y ⟨_,_,!⟨y7,cF,X⟩⟩ ⟨L,okS⟩ (by simp only [Cond.size];decide))
 ·exact zw c (by show atI _ (a7 / 5 % 9)=_;rw [t];rfl) (q _ (.no (.less (.nu num) (.nm other))) _ y ⟨_,!⟨y9,(!y8)⟩⟩ ⟨m3,m2⟩ (by simp only [Cond.size];decide))
 ·exact zw c (by show atI _ (a7 / 5 % 9)=_;rw [t];rfl) (q _ (.an (.less (.nm one) (.nm other)) (.or (.same (.nm one) (.nm other)) (.less (.nm one) (.nu num)))) _ y ⟨_,_,!⟨oh,(!oe),⟨_,_,!⟨og,X,cF⟩⟩⟩⟩ ⟨⟨m1,m2⟩,okS,L⟩ (by simp only [Cond.size];decide))
 ·exact zw c (by show atI _ (a7 / 5 % 9)=_;rw [t];rfl) (q _ (.same (.nu num) (.nu 1)) _ y (!vw) ⟨m3,oi⟩ (by simp only [Cond.size];decide))
 ·exact zw c (by show atI _ (a7 / 5 % 9)=_;rw [t];rfl) (q _ _ _ y X okS (by simp [Cond.size]))
 ·exact zw c (by show atI _ (a7 / 5 % 9)=_;rw [t];rfl) (q _ (.an (.same (.nm one) (.nm other)) (.less (.nm one) (.nu num))) _ y ⟨_,_,!⟨vx,X,cF⟩⟩ ⟨okS,L⟩ (by simp only [Cond.size];decide))
def kc{fs:List (Addr×List Int)}(a:H np=none)(n:zz H H')(x:H' np=some (.lst (refs fs)))(hm:∀r∈fs,H r.1=some (.lst (r.2.map V.int))):RowsAt H' np fs:=
 ⟨x,λr m=>⟨zy (hm r m) a,n _ _ (hm r m)⟩⟩
def z0O{x y z u:α}{r:List α}:atI (x :: y :: z :: u :: r) 3=some u:=zX (j:=3) rfl
theorem z1R(f:α->Bool)(xs:List α){x:α}(h:xs[i]? =some x):(xs.take (i + 1)).filter f=(xs.take i).filter f ++ (if f x=true then [x]else []):=by
 rw [q9,h,w0r]
 congr 1
 show List.filter f [x]=_
 rw [List.filter_cons]
 rfl
theorem zb3(rs:List (Addr×List Int)):(rs.filter λr=>ev hs r.2 c).map (·.2)=(rs.map (·.2)).filter λr=>ev hs r c:=by
 rw [w0h]
 rfl
inductive spPicked (K:W.Frag) (vs:List V) (H:Hp) (Q:VK) (E:XK):Prop
 | mk:∀th tr q v a7,vs= [v,.int a7]->TabOk th tr->yJ th tr H v q->okQ th q->(zA q).length<=4000000->(rowsOf th tr q).length<=100000->(∀(v':V) (c:Cond) (H':Hp),zz H H'->yJ th tr H' v' (.pick c q)->jy (za th q) c->c.size<=6->Q v' H')->spPicked K vs H Q E
theorem yd:FnScope ["_law_state","_law_seed","_law_condition","_law_rows","_law_line"] ["_law_state","_law_seed"] (zm kU):=by walk_at "s"
theorem z4B(F:Fun K "_law_picked" "_law_picked" kU f fd)(T:Txt K mg)(a:Kn P w K mg base 1 "_law_asking" ["_law_heads","_law_seed"] (spAsking K))(d:Kn P w K mg base 7 "_law_true" ["_law_condition","_law_heads","_law_row"] (spTrue K 7))(b:Kn P w K mg base 7 "_law_spelt" ["_law_condition"] (spSpelt K 7)):
  FnOk P w K mg base CX0 8 f fd ["_law_state","_law_seed"] (spPicked K):=by
 refine F.okB yd (λvs H Q E h=> ?_) (λvs H Q E h=> ?_)
 ·obtain⟨th,tr,q,v,a7,rfl,_⟩:=h
  rfl
 obtain⟨th,tr,q,v,a7,rfl,TT,aH,hok,fh,bj,fin⟩:=h;obtain⟨p,qv,hp,rp,rs,rfl,h1,h2,X,B,z⟩:=aH;obtain⟨aq,lV⟩:=jA TT hok;have cj:=zZ TT hok;have Z:(refs rs).length=rs.length:=w9 _;have dX:rs.length<=100000:=by rw [<-z,w9]at bj;exact bj
 intro ac A outer sh hr;have hu:=z1u hr;refine⟨_,(ze (kD (i:=2) yd.nd rfl (QH rfl) (zV a hr.m (zl (ixT v0 zb) (zf v1 zd))))
  (ze (jH (j:=3) rfl yd.nd rfl (QV rfl) (CompSc.of (sx:=zm kU) (NX:= ["_law_state","_law_seed","_law_condition","_law_rows","_law_line"]) (fr:= ["_law_condition","_law_state"]) (ix:= [2,0]) rfl rfl (by decide +kernel)) (jb (ixT v0 zb)) (λ_ _ _ _ _ _=>(z0F (jq (zV d hr.m (zf v1 (zl (yK (z0j (K:=K) rfl) v2 zb (λ_ _=>rfl)) (zf v0 zd))))))) (λ_ _ _ _ _ _=>v0))
  (ze (kO (z3M (cmT (z1L hu) v3 (zx zd)) (cmT z6g (zr zS v1 zb) zb))
   (ze (kD (i:=2) yd.nd rfl (QH rfl) (zC (zo zi (zf v2 zd))))
   (zh (seT 3 yd (je jY rfl T.list qF (zl (ixT v0 zb) zd)))))
   zu)
  (ze (seT 4 yd (zr zp (zr zp (zr zp (zr zp zi (zV b hr.m (zf v2 zd))) zi) (ixT v0 zb)) zi))
  (zh (zt (zC (zH (zC (zo zi (zf v2 (zl (ixT v0 zb) zd)))) (zf v4 (zl (ixT v0 zb) (zf v3 zd))))))))))),?_⟩
 generalize hK0:K=K1
 revert K1
 refine jo (by walk_at "cl") ?_;refine !(zg h1 ji (!⟨hp,a7,za th q,rfl,X,aq,λcv c H1 s1 hc I sz=> ?_⟩));have g1:=s1 _ _ h1;have C:=B.same s1;refine !(zg g1 z0O ⟨rp,rfl,⟨_,SqL.of C.1⟩,?_⟩);refine kF (xs:=refs rs) (λi ys H'=>zz H1 H'/\ys=refs ((rs.take i).filter λr=>ev (za th q) r.2 c)) ⟨zz.refl _,rfl⟩ ?_ ?_ ?_
 ·rintro i ys H' hi ⟨e,rfl⟩;refine⟨SqL.of (e _ _ C.1),zG ?_⟩;have:=qz (λr:Addr×List Int=>ev (za th q) r.2 c) (rs.take i);rw [w9];rw [wS]at this
  lia
 ·rintro i x ys H' hi ⟨e,rfl⟩;have G:i < rs.length:=by
   have:=(we.mp hi).1
   rwa [Z]at this
  rw [z09 G]at hi;cases hi;have t:=s1.trans e;have bZ:=(C.2 _ (wG G)).2;have hlen:rs[i].2.length=(za th q).length:=jJ TT hok _ (by rw [<-z];exact qA.mpr ⟨_,wG G,rfl⟩);refine !(!(zg (t _ _ h1) ji (!⟨cv,hp,rs[i].1,za th q,rs[i].2,c,rfl,hc.same e,I,t _ _ X,e _ _ bZ,hlen,by lia,λs l=>!?_⟩)));have ft:=z1R (λr:Addr×List Int=>ev (za th q) r.2 c) rs (wa G);cases hev:ev (za th q) rs[i].2 c with
  | true=>
   refine ifT rfl ?_;refine !⟨e.trans l,?_⟩;rw [ft,hev,wU rfl];simp [refs]
  | false=>
   refine ifF rfl ?_;refine⟨e.trans l,?_⟩;rw [ft,hev];simp
 ·rintro ys H' ⟨e,rfl⟩ np aA;rw [Z,qB];refine zc (upd _ np _) rfl aA λH2 O x2=> ?_
  have oj:=kc aA O x2 λr m=>e _ _ (C.2 r (Qp.mp m).1).2
  have s2:=s1.trans (e.trans O);have dR:=hc.same (e.trans O);have g2:=s2 _ _ h1;have j2:=B.same s2;refine⟨λσ s=>∃(y:V) (c':Cond) (D:Addr) (fs:List (Addr×List Int)),σ= [some (.ref p),some (.int a7),some y,some (.ref D),none]/\zz H s/\zI s c' y/\jy (za th q) c'/\c'.size<=6/\RowsAt s D fs/\fs.map (·.2)=rowsOf th tr (.pick c' q),?_,?_⟩
  ·refine !⟨(zq rfl),λep L=> ?_⟩;refine zc (upd _ ep _) rfl L λs u x3=> ?_
   refine⟨np,ep,!⟨rfl,SqL.of (u _ _ x2),SqL.of x3,!⟨_,(!(ex2 rfl rfl ⟨(by show(0:Int) < 3;decide),ex2 rfl rfl (!⟨rfl,rfl⟩)⟩)),?_⟩⟩⟩;have l:=s2.trans u;refine yV (λN=> ?_) (λN=> ?_)
   ·rw [qT]at N;have ol:(rs.filter λr=>ev (za th q) r.2 c)= []:=by
     have:=N.1;rw [List.isEmpty_iff]at this;exact List.map_eq_nil_iff.mp this
    refine !⟨(zq rfl),λkp eF=> ?_⟩;refine zc (upd _ kp _) rfl eF λH4 n4 x4=> ?_
    have o:=l.trans n4;refine !(zg (o _ _ h1) z0O ⟨rp,!⟨.inl (SqL.of (B.same o).1),λdp dY=> ?_⟩⟩);have j4:=B.same o;refine zc (upd _ dp _) rfl dY λH5 n S=> ?_
    have gG:=kc dY n S λr m=>(j4.2 r m).2
    refine⟨_,.no c,dp,rs,rfl,o.trans n,⟨kp,cv,rfl,n _ _ x4,dR.same (u.trans (n4.trans n))⟩,I,by simp only [Cond.size];lia,gG,?_⟩
    show _=(rowsOf th tr q).filter λr=>ev (za th q) r (.no c)
    rw [z,eq_comm,w19];intro r ci;rw [<-z]at ci;obtain⟨x,hx,rfl⟩:=qA.mp ci;have:=w0i.mp ol x hx
    show(not (ev (za th q) x.2 c))=true
    simpa using this
   ·refine⟨_,c,np,!⟨l,dR.same u,I,by lia,oj.same u,?_⟩⟩;rw [zb3,z]
    rfl
  ·rintro σ s ⟨y,c',D,fs,rfl,l,rS,R,vy,rT,e3⟩;have ls:=yX cj R;have g3:=l _ _ h1;refine !⟨y,za th q,c',rfl,rS,R,cj,by lia,by lia,λH4 o=> ?_⟩;have M:=o _ _ g3;refine ex2 rfl rfl ⟨by(walk_at "sl"),ex2 rfl rfl ⟨by(walk_at "sl"),!(zg M jc (ex2 rfl rfl ⟨by(walk_at "sl"),ex2 rfl rfl ⟨by(walk_at "sl"),?_⟩⟩))⟩⟩;refine !(!(zg M zD ⟨(zq rfl),λqp c6=> ?_⟩));refine zc (upd _ qp _) rfl c6 λH5 n S=> ?_
   refine !(!(zg (n _ _ M) ji (!⟨(zq rfl),λsp ao=> ?_⟩)));refine zc (upd _ sp _) rfl ao λH6 Y x6=> ?_
   have U:=o.trans (n.trans Y);have J:=l.trans U;exact fin _ c' _ J ⟨sp,_,hp,D,fs,rfl,x6,⟨qp,y,qv,rfl,Y _ _ S,rS.same U,h2.same J⟩,J _ _ X,rT.same U,e3⟩ R vy
theorem z22{m:Int}(h:0<=m):z0A xs none (some m)=xs.take m.toNat:=by
 unfold z0A;rw [HT.sIx_none,w13,Nat.sub_zero];have e:HT.sIx xs.length xs.length (some m)=min m.toNat xs.length:=by
  show(if m < 0 then(m + (xs.length:Int)).toNat else min m.toNat xs.length)=_
  rw [wM (by lia)]
 rw [e,List.take_eq_take_iff]
 lia
theorem z8h{xs:List Int}{i:Int}(a:∀m∈xs,m∈z0f)(h0:0<=i)(h1:i < (xs.length:Int)):∃m∈z0f,atI (xs.map V.int) i=some (.int m):=by
 obtain⟨h,e⟩:=z7A (xs:=xs.map V.int) h0 (by rw [w9];exact h1);have h':i.toNat < xs.length:=by simpa using h
 refine⟨xs[i.toNat],a _ (wG _),?_⟩;rw [e,List.getElem_map]
noncomputable def z8H:List Int:= [9,1,5,3,12,7,0,10 ^ 9]
noncomputable def z8p:List Int:= [4,0,2,3,8,7,10 ^ 9]
theorem zax:∀m∈z8H,m∈z0f:=by decide +kernel
theorem z9Z:∀m∈z8p,m∈z0f:=by decide +kernel
theorem zem:(z8H.length:Int)=8:=rfl
theorem zet:(z8p.length:Int)=7:=rfl
theorem za5(i:Int):∃m∈z0f,atI (z8H.map V.int) (i % 8)=some (.int m):=z8h zax (z1n (by decide)).1 (by rw [zem];exact(z1n (by decide)).2)
theorem zaf(i:Int):∃m∈z0f,atI (z8p.map V.int) (i % 7)=some (.int m):=z8h z9Z (z1n (by decide)).1 (by rw [zet];exact(z1n (by decide)).2)
def zeO(a:H0 l0=some (HO.lst [V.int 9,V.int 1,V.int 5,V.int 3,V.int 12,V.int 7,V.int 0,V.int ((10:Int) ^ (9:Int).toNat)])):H0 l0=some (.lst (z8H.map V.int)):=a
def zeF(a:H0 l0=some (HO.lst [V.int 4,V.int 0,V.int 2,V.int 3,V.int 8,V.int 7,V.int ((10:Int) ^ (9:Int).toNat)])):H0 l0=some (.lst (z8p.map V.int)):=a
theorem z5a:∀m∈z0f,0<=m:=by decide +kernel
def z6I{m:Int}(h:m∈z0f):z9I (.int m) (toString m):= .inl ⟨m,rfl,(z03 m h).2,rfl⟩
inductive spHeaded (K:W.Frag) (vs:List V) (H:Hp) (Q:VK) (E:XK):Prop
 | mk:∀th tr q v a7,vs= [v,.int a7]->yJ th tr H v q->(zA q).length<=4000000->(∀(v':V) (q':Qn) (H':Hp),zz H H'->yJ th tr H' v' q'->(∃n∈z0f,q'= .first n q\/∃m∈z0f,q'= .first m (.first n q))->Q v' H')->spHeaded K vs H Q E
def z56(n:Nat)(h:RowsAt H rp rs):∀r∈rs.take n,H r.1=some (.lst (r.2.map V.int)):=λr m=>(h.2 r (QC m)).2
theorem jk:FnScope ["_law_state","_law_seed","_law_many","_law_line","_law_question","_law_rows","_law_more"] ["_law_state","_law_seed"] (zm z0X):=by walk_at "s"
theorem z4q(F:Fun K "_law_headed" "_law_headed" z0X f fd)(T:Txt K mg):FnOk P w K mg base CX0 1 f fd ["_law_state","_law_seed"] (spHeaded K):=by
 refine F.okB jk (λvs H Q E h=> ?_) (λvs H Q E h=> ?_)
 ·obtain⟨th,tr,q,v,a7,rfl,_⟩:=h
  rfl
 obtain⟨th,tr,q,v,a7,rfl,Y,fh,fin⟩:=h;obtain⟨p,qv,hp,rp,rs,rfl,h1,h2,J,O,h5⟩:=Y;obtain⟨m,c,e1⟩:=za5 (a7 / 2);obtain⟨d,e,e2⟩:=zaf (a7 / 16 + a7);have ll:=(z03 m c).1;have Cu:=(z03 d e).1;have N:=z5a m c;have vz:=z5a d e;intro ac A outer sh hr;refine⟨_,(ze (seT 2 jk (ixL (zx (zo zb (zo zb (zo zb (zo zb (zo zb (zo zb (zo zb (yo (z3G ⟨by decide,by decide,by decide⟩) zd))))))))) (zr zS (zr yb v1 zb) zb)))
  (ze (seT 3 jk (zr zp (zr zp (zr zp (zr zp zi (je z23 rfl T.str qX (zf v2 zd))) zi) (ixT v0 zb)) zi))
  (ze (seT 4 jk (zC (zo zi (zf v2 (zl (ixT v0 zb) zd)))))
  (ze (seT 5 jk (j8 kj (ixT v0 zb) jx (jn v2)))
  (ze (zF (cmT zK (zr zS v1 zb) zb)
   (ze (seT 6 jk (ixL (zx (zo zb (zo zb (zo zb (zo zb (zo zb (zo zb (yo (z3G ⟨by decide,by decide,by decide⟩) zd)))))))) (zr zS (zr kh (zr yb v1 zb) v1) zb)))
   (ze (seT 3 jk (zr zp (zr zp (zr zp (zr zp zi (je z23 rfl T.str qX (zf (pv 6) zd))) zi) v3) zi))
   (ze (seT 4 jk (zC (zo zi (zf (pv 6) (zf v4 zd)))))
   (zh (seT 5 jk (j8 kj v5 jx (jn (pv 6))))))))
   zu)
  (zh (zt (zC (zf v4 (zf v3 (zl (ixT v0 zb) (zf v5 zd)))))))))))),?_⟩
 generalize hK0:K=K1
 revert K1
 refine jo (by walk_at "cl") ?_;refine⟨(zq rfl),λl0 f0=> ?_⟩;refine zc (upd _ l0 _) rfl f0 λH0 n s=> ?_
 replace s:=zeO s;refine !(ex2 rfl rfl ⟨⟨by decide,by decide⟩,ex2 rfl rfl ⟨(by show(0:Int) < 8;decide),zw s e1 ?_⟩⟩);refine !⟨_,!⟨z6I c,ex2 rfl rfl ⟨by(walk_at "sl"),ex2 rfl rfl ⟨by(walk_at "sl"),!(zg (n _ _ h1) jc (ex2 rfl rfl ⟨by(walk_at "sl"),ex2 rfl rfl ⟨by(walk_at "sl"),?_⟩⟩))⟩⟩⟩⟩;refine !(!(zg (n _ _ h1) zD ⟨(zq rfl),λi f1=> ?_⟩));refine zc (upd _ i _) rfl f1 λH1 n1 x1=> ?_
 have s1:=n.trans n1;have u:=O.same s1;refine !(zg (s1 _ _ h1) z0O (!(!⟨rp,!⟨SqL.of u.1,λr2 f2=> ?_⟩⟩)));rw [z22 N,<-w0G];refine zc (upd _ r2 _) rfl f2 λH2 r x2=> ?_
 have s2:=s1.trans r;have w2:=kc f2 r x2 (z56 _ u);have L:QAt H2 (.first m q) (.ref i):=⟨i,qv,rfl,r _ _ x1,h2.same s2⟩;have G:(rs.take m.toNat).map (·.2)=rowsOf th tr (.first m q):=by
  rw [w0G,h5]
  rfl
 have eK:(zA (.first m q)).length<=4000100:=by simp only [zA];(walk_at "sl")
 refine !(ex2 rfl rfl ⟨(by show(0:Int) < 2;decide),rfl,!?_⟩);refine yV (λhb=> ?_) (λhb=> ?_)
 ·refine⟨(zq rfl),λl3 R=> ?_⟩;refine zc (upd _ l3 _) rfl R λH3 M o=> ?_
  replace o:=zeF o;refine !(ex2 rfl rfl ⟨⟨by decide,by decide⟩,!(ex2 rfl rfl (ex2 rfl rfl ⟨(by show(0:Int) < 7;decide),zw o e2 ?_⟩))⟩);refine !⟨_,!⟨z6I e,ex2 rfl rfl ⟨by(walk_at "sl"),ex2 rfl rfl ⟨by(walk_at "sl"),!⟨_,(zA (.first m q)),rfl,rfl,by(walk_at "sl"),ex2 rfl rfl ⟨by(walk_at "sl"),?_⟩⟩⟩⟩⟩⟩;refine !(!⟨(zq rfl),λD S=> ?_⟩);refine zc (upd _ D _) rfl S λH4 Z X=> ?_
  have z:=M.trans Z;have B:=w2.same z;refine !(!(!⟨r2,!⟨SqL.of B.1,λC y=> ?_⟩⟩));rw [z22 vz,<-w0G];refine zc (upd _ C _) rfl y λH5 t x5=> ?_
  have w5:=kc y t x5 (z56 _ B);have x:=z.trans t;have I:=s2.trans x;refine !(!(!(zg (I _ _ h1) ji (!⟨(zq rfl),λsp j=> ?_⟩))));refine zc (upd _ sp _) rfl j λU a l=> ?_
  have b:=I.trans a;refine fin _ (.first d (.first m q)) _ b ⟨sp,_,hp,C,!⟨l,⟨D,!⟨a _ _ (t _ _ X),L.same (x.trans a)⟩⟩,b _ _ J,w5.same a,?_⟩⟩ ⟨m,c,.inr ⟨d,e,rfl⟩⟩;rw [w0G,G]
  rfl
 ·refine !(!(!(zg (s2 _ _ h1) ji (!⟨(zq rfl),λsp j=> ?_⟩))));refine zc (upd _ sp _) rfl j λU a l=> ?_
  have b:=s2.trans a;exact fin _ (.first m q) _ b ⟨sp,_,hp,r2,!⟨l,L.same a,b _ _ J,w2.same a,G⟩⟩ ⟨m,c,.inl rfl⟩
variable{gs:List (Addr×List Int)}
theorem z8b{sp c hp x y:Addr}{a b:Qn}{d:V}{fs:List (Addr×List Int)}(s:zz H H')(f:H' sp=some (.tup [.ref c,.str (zA (.both a b)),.ref hp,.ref np]))(j:H' c=some (.tup [.str "both",qv,d]))(h1:QAt H' a qv)(h2:QAt H' b d)
  (i:H' hp=some (.lst ((za th a).map V.str))) (hr:RowsAt H' np (fs ++ gs)) (h:fs.map (·.2)=rowsOf th tr a) (e:gs.map (·.2)=rowsOf th tr b):yJ th tr H' (.ref sp) (.both a b):=
 ⟨sp,_,hp,np,!⟨f,⟨c,qv,d,rfl,j,h1,h2⟩,i,hr,by rw [wC,h,e];rfl⟩⟩
theorem z6q{a b:Addr}{fs:List (Addr×List Int)}(c:H np=none)(n:zz H H')(x:H' np=some (.lst (refs fs ++ refs gs)))(h1:RowsAt H a fs)(h2:RowsAt H b gs):RowsAt H' np (fs ++ gs):=
 kc c n (by rw [x];simp [refs]) λr m=>by
  rcases wx.mp m with m | m
  ·exact(h1.2 r m).2
  ·exact(h2.2 r m).2
theorem z3R(b:∀s∈za th q,s.length<=10)(a:jy (za th q) c)(sz:c.size<=6):(zA (.pick c q)).length<=(zA q).length + 1000:=by
 have d:=yX b a;simp only [zA]
 (walk_at "sl")
inductive spDoubled (K:W.Frag) (vs:List V) (H:Hp) (Q:VK) (E:XK):Prop
 | mk:∀th tr q v a7,vs= [v,.int a7]->TabOk th tr->yJ th tr H v q->okQ th q->(zA q).length<=4000000->(rowsOf th tr q).length<=100000->(∀(v':V) (q':Qn) (c:Cond) (H':Hp),zz H H'->yJ th tr H' v' q'->jy (za th q) c->c.size<=6->(q'= .both q (.pick c q)\/q'= .both (.pick c q) q)->Q v' H')->spDoubled K vs H Q E
theorem jW:FnScope ["_law_state","_law_seed","_law_one","_law_other","_law_line"] ["_law_state","_law_seed"] (zm z0t):=by walk_at "s"
theorem z3u(F:Fun K "_law_doubled" "_law_doubled" z0t f fd)(T:Txt K mg)(a:Kn P w K mg base 8 "_law_picked" ["_law_state","_law_seed"] (spPicked K)):FnOk P w K mg base CX0 9 f fd ["_law_state","_law_seed"] (spDoubled K):=by
 refine F.okB jW (λvs H Q E h=> ?_) (λvs H Q E h=> ?_)
 ·obtain⟨th,tr,q,v,a7,rfl,_⟩:=h
  rfl
 obtain⟨th,tr,q,v,a7,rfl,TT,B,hok,X,l,fin⟩:=h;have Z:=zZ TT hok;intro ac A outer sh hr;refine⟨_,(ze (seT 2 jW v0)
  (ze (seT 3 jW (zV a hr.m (zf v0 (zf v1 zd))))
  (ze (kO (cmT zK (zr zS (zr yb v1 zb) zb) zb)
   (ze (seT 2 jW v3)
   (zh (seT 3 jW v0)))
   zu)
  (ze (seT 4 jW (zr zp (zr zp (zr zp (zr zp zi (ixT v2 zb)) zi) (ixT v3 zb)) zi))
  (zh (zt (zC (zH (zC (zo zi (zl (ixT v2 zb) (zl (ixT v3 zb) zd)))) (zf v4 (zl (ixT v0 zb) (yo (zr ke (ixT v2 zb) (ixT v3 zb)) zd))))))))))),?_⟩
 generalize hK0:K=K1
 revert K1
 refine jo (by walk_at "cl") ?_;refine !?_;refine !(!⟨th,tr,q,v,a7,rfl,TT,B,hok,X,l,λv1 c H1 s1 j t sz=> ?_⟩);have s:=B.same s1;have lp:=z3R Z t sz;have rl:(rowsOf th tr (.pick c q)).length<=100000:=wV (qz _ _) l;have N:za th (.pick c q)=za th q:=rfl;refine⟨λσ I=>∃(o tv:V) (b e:Qn),σ= [some v,some (.int a7),some o,some tv,none]/\I=H1/\yJ th tr H1 o b/\yJ th tr H1 tv e/\(zA b).length<=4001000/\(zA e).length<=4001000/\(rowsOf th tr b).length<=100000/\(rowsOf th tr e).length<=100000/\za th b=za th q/\((b=q/\e= .pick c q)\/(b= .pick c q/\e=q)),?_,?_⟩
 ·refine !(ex2 rfl rfl ⟨⟨by decide,by decide⟩,ex2 rfl rfl ⟨(by show(0:Int) < 2;decide),rfl,!?_⟩⟩);refine yV (λU=> ?_) (λU=> ?_)
  ·refine !?_;refine !?_;exact⟨_,_,ex2 rfl rfl ⟨j,s,by lia,by lia,rl,l,N,.inr ⟨rfl,rfl⟩⟩⟩
  ·exact⟨_,_,ex2 rfl rfl ⟨s,j,by lia,by lia,l,rl,rfl,.inl ⟨rfl,rfl⟩⟩⟩
 ·rintro σ I ⟨o,tv,b,e,rfl,rfl,M,Y,lo,lt,u,rt,eo,hq⟩;obtain⟨p,qv,hp,rp,rs,rfl,h1,h2,h3,h4,h5⟩:=s;obtain⟨p1,gI,cG,gG,bc,rfl,a1,a2,a3,G,D⟩:=M;obtain⟨p2,bP,bD,fV,R,rfl,b1,b2,b3,C,J⟩:=Y;have l1:bc.length<=100000:=by rw [<-D,w9]at u;exact u
  have l2:R.length<=100000:=by rw [<-J,w9]at rt;exact rt
  refine !(zg a1 jc (ex2 rfl rfl ⟨by(walk_at "sl"),ex2 rfl rfl ⟨by(walk_at "sl"),!(zg b1 jc (ex2 rfl rfl ⟨by(walk_at "sl"),ex2 rfl rfl ⟨by(walk_at "sl"),?_⟩⟩))⟩⟩));refine !(zg a1 zD (!(zg b1 zD ⟨(zq rfl),λS c6=> ?_⟩)));refine zc (upd _ S _) rfl c6 λH5 d x5=> ?_
  refine !(!(zg (d _ _ h1) ji (!(zg (d _ _ a1) z0O (!(zg (d _ _ b1) z0O ⟨_,_,ex2 rfl rfl ⟨d _ _ G.1,d _ _ C.1,ja (by rw [w9,w9];lia),λnp z=> ?_⟩⟩))))));refine zc (upd _ np _) rfl z λH6 n O=> ?_
  have L:=z6q z n O (G.same d) (C.same d);refine⟨(zq rfl),λsp ao=> ?_⟩;refine zc (upd _ sp _) rfl ao λH7 r x7=> ?_
  have i:=d.trans (n.trans r);refine fin _ (.both b e) c _ (s1.trans i) (z8b (x:=p) (y:=p) i x7 (r _ _ (n _ _ x5)) (a2.same i) (b2.same i) (by rw [eo];exact i _ _ h3) (L.same r) D J) t sz ?_;rcases hq with⟨rfl,rfl⟩ | ⟨rfl,rfl⟩
  ·exact .inl rfl
  ·exact .inr rfl
def TabAt(th:Str->List Str)(tr:Str->List (List Int))(H:Hp)(v:V)(n:Str):Prop:=∃(p hp rp:Addr) (rs:List (Addr×List Int)),v= .ref p/\H p=some (.tup [.str n,.ref hp,.ref rp])/\
 H hp=some (.lst ((th n).map V.str))/\RowsAt H rp rs/\rs.map (·.2)=tr n
theorem TabAt.same{v:V}(h:TabAt th tr H v n)(e:zz H H'):TabAt th tr H' v n:=by
 obtain⟨p,hp,rp,rs,rfl,h1,c,b,a⟩:=h;exact⟨p,hp,rp,rs,rfl,e _ _ h1,e _ _ c,b.same e,a⟩
inductive spBeside (K:W.Frag) (vs:List V) (H:Hp) (Q:VK) (E:XK):Prop
 | mk:∀th tr q n v tv a7,vs= [v,tv,.int a7]->yJ th tr H v q->TabAt th tr H tv n->za th q=th n->n.length<=10->(zA q).length<=4000000->(rowsOf th tr q).length<=100000->(tr n).length<=100000->(∀(v':V) (q':Qn) (H':Hp),zz H H'->yJ th tr H' v' q'->(q'= .both q (.table n)\/q'= .both (.table n) q)->Q v' H')->spBeside K vs H Q E
theorem yf:FnScope ["_law_state","_law_table","_law_seed","_law_one","_law_other","_law_line"] ["_law_state","_law_table","_law_seed"] (zm z0M):=by walk_at "s"
theorem z45(F:Fun K "_law_beside" "_law_beside" z0M f fd)(T:Txt K mg):FnOk P w K mg base CX0 1 f fd ["_law_state","_law_table","_law_seed"] (spBeside K):=by
 refine F.okB yf (λvs H Q E h=> ?_) (λvs H Q E h=> ?_)
 ·obtain⟨th,tr,q,n,v,tv,a7,rfl,_⟩:=h
  rfl
 obtain⟨th,tr,q,n,v,tv,a7,rfl,aH,ht,vA,nl,fh,X,G,fin⟩:=h;obtain⟨tp,lY,iq,Z,rfl,O,t3,t4,t5⟩:=ht;intro ac A outer sh hr;refine⟨_,(ze (seT 3 yf v0)
  (ze (seT 4 yf (zC (zH (zC (zo zi (zl (ixT v1 zb) zd))) (zl (ixT v1 zb) (zl (ixT v1 zb) (zl (ixT v1 zb) zd))))))
  (ze (kO (cmT zK (zr zS (zr yb v2 zb) zb) zb)
   (ze (seT 3 yf v4)
   (zh (seT 4 yf v0)))
   zu)
  (ze (seT 5 yf (zr zp (zr zp (zr zp (zr zp zi (ixT v3 zb)) zi) (ixT v4 zb)) zi))
  (zh (zt (zC (zH (zC (zo zi (zl (ixT v3 zb) (zl (ixT v4 zb) zd)))) (zf v5 (zl (ixT v0 zb) (yo (zr ke (ixT v3 zb) (ixT v4 zb)) zd))))))))))),?_⟩
 generalize hK0:K=K1
 revert K1
 refine jo (by walk_at "cl") ?_;refine !?_;refine !(zg O zD ⟨(zq rfl),λI c6=> ?_⟩);refine zc (upd _ I _) rfl c6 λH1 M x1=> ?_
 have s:=M _ _ O;refine !(zg s zD (!(zg s jc (!(zg s ji ⟨(zq rfl),λc j=> ?_⟩)))));refine zc (upd _ c _) rfl j λH2 L x2=> ?_
 have s2:=M.trans L;have N:yJ th tr H2 (.ref c) (.table n):=⟨c,_,lY,iq,Z,rfl,x2,⟨I,rfl,L _ _ x1⟩,s2 _ _ t3,t4.same s2,t5⟩;have z:=aH.same s2;have Cv:(zA (.table n)).length<=10:=nl;refine⟨λσ S=>∃(o u:V) (a d:Qn),σ= [some v,some (.ref tp),some (.int a7),some o,some u,none]/\S=H2/\yJ th tr H2 o a/\yJ th tr H2 u d/\(zA a).length<=4000000/\(zA d).length<=4000000/\(rowsOf th tr a).length<=100000/\(rowsOf th tr d).length<=100000/\za th a=za th q/\((a=q/\d= .table n)\/(a= .table n/\d=q)),?_,?_⟩
 ·refine !(ex2 rfl rfl ⟨⟨by decide,by decide⟩,ex2 rfl rfl ⟨(by show(0:Int) < 2;decide),rfl,!?_⟩⟩);refine yV (λhb=> ?_) (λhb=> ?_)
  ·refine !?_;refine !?_;exact⟨_,_,ex2 rfl rfl ⟨N,z,by lia,by lia,G,X,vA.symm,.inr ⟨rfl,rfl⟩⟩⟩
  ·exact⟨_,_,ex2 rfl rfl ⟨z,N,by lia,by lia,X,G,rfl,.inl ⟨rfl,rfl⟩⟩⟩
 ·rintro σ S ⟨o,u,a,d,rfl,rfl,oq,ot,lo,lt,B,rt,eo,hq⟩;obtain⟨p,qv,hp,rp,rs,rfl,h1,h2,h3,h4,h5⟩:=z;obtain⟨p1,gI,cG,gG,bc,rfl,a1,a2,a3,R,J⟩:=oq;obtain⟨p2,bP,bD,fV,bE,rfl,b1,b2,b3,D,U⟩:=ot;have l1:bc.length<=100000:=by rw [<-J,w9]at B;exact B
  have l2:bE.length<=100000:=by rw [<-U,w9]at rt;exact rt
  refine !(zg a1 jc (ex2 rfl rfl ⟨by(walk_at "sl"),ex2 rfl rfl ⟨by(walk_at "sl"),!(zg b1 jc (ex2 rfl rfl ⟨by(walk_at "sl"),ex2 rfl rfl ⟨by(walk_at "sl"),?_⟩⟩))⟩⟩));refine !(zg a1 zD (!(zg b1 zD ⟨(zq rfl),λr i=> ?_⟩)));refine zc (upd _ r _) rfl i λH5 b x5=> ?_
  refine !(!(zg (b _ _ h1) ji (!(zg (b _ _ a1) z0O (!(zg (b _ _ b1) z0O ⟨_,_,ex2 rfl rfl ⟨b _ _ R.1,b _ _ D.1,ja (by rw [w9,w9];lia),λnp C=> ?_⟩⟩))))));refine zc (upd _ np _) rfl C λH6 l x6=> ?_
  have Y:=z6q C l x6 (R.same b) (D.same b);refine⟨(zq rfl),λsp ao=> ?_⟩;refine zc (upd _ sp _) rfl ao λH7 t x7=> ?_
  have e:=b.trans (l.trans t);refine fin _ (.both a d) _ (s2.trans e) (z8b (x:=p) (y:=p) e x7 (t _ _ (l _ _ x5)) (a2.same e) (b2.same e) (by rw [eo];exact e _ _ h3) (Y.same t) J U) ?_;rcases hq with⟨rfl,rfl⟩ | ⟨rfl,rfl⟩
  ·exact .inl rfl
  ·exact .inr rfl
theorem z3Y(h:i < rs.length):(rs.map (·.2))[i]? =some rs[i].2:=by
 rw [wO,wa h]
 rfl
theorem z79(h:i < rs.length):(rs.map (·.2)).getD i []=rs[i].2:=by
 rw [wo,z3Y h]
 rfl
theorem z6j{m:Int}(h:0<=m):z0A xs (some m) none=xs.drop m.toNat:=by
 unfold z0A;rw [HT.sIx_none];have e:HT.sIx xs.length 0 (some m)=min m.toNat xs.length:=by
  show(if m < 0 then(m + (xs.length:Int)).toNat else min m.toNat xs.length)=_
  rw [wM (by lia)]
 rw [e];by_cases hm:m.toNat<=xs.length
 ·rw [Nat.min_eq_left hm,Qo (by rw [w0I];lia)]
 ·rw [Nat.min_eq_right (by lia),List.drop_of_length_le (ww _),List.drop_of_length_le (by lia),List.take_nil]
theorem z73(hs:List α)(t:Nat):(hs.drop t ++ hs.take t).Perm hs:=by
 have:=List.perm_append_comm (l₁:=hs.drop t) (l₂:=hs.take t)
 rwa [List.take_append_drop]at this
theorem z9z(h:∀n∈ns,n.length<=10):(ns.map (·.length)).sum<=10 * ns.length:=by
 induction ns with
 | nil=>exact ww _
 | cons n ns a=>
  have h1:=h n qE;have h2:=a λm hm=>h m (wY _ hm)
  rw [wR,qR,wJ]
  lia
theorem z4E:∀{ns:List Str},(∀n∈ns,n.length<=10)->(Str.join " " ns).length<=11 * ns.length
 | [],_=>by simp [Str.join];decide
 | [n],h=>by
  have:=h n qE;simp only [Str.join,wD]
  lia
 | n :: m :: ns,h=>by
  have h1:=h n qE;have h2:=z4E (ns:=m :: ns) λx a=>h x (wY _ a)
  simp only [Str.join,w0Z,z1t];have e:(n :: m :: ns).length=(m :: ns).length + 1:=rfl
  lia
inductive spColumns (K:W.Frag) (vs:List V) (H:Hp) (Q:VK) (E:XK):Prop
 | mk:∀th tr q v a7,vs= [v,.int a7]->TabOk th tr->yJ th tr H v q->okQ th q->(zA q).length<=4000000->(rowsOf th tr q).length<=100000->(za th q).length<=1000->(∀(v':V) (ns:List Str) (H':Hp),zz H H'->yJ th tr H' v' (.cols ns q)->ns≠ []->ns.Nodup->(∀n∈ns,n∈za th q)->Q v' H')->spColumns K vs H Q E
theorem jG:FnScope ["_law_state","_law_seed","_law_turn","_law_names","_law_spots","_law_rows","_law_line"] ["_law_state","_law_seed"] (zm yg):=by walk_at "s"
theorem z3F(F:Fun K "_law_columns" "_law_columns" yg f fd)(T:Txt K mg):FnOk P w K mg base CX0 1 f fd ["_law_state","_law_seed"] (spColumns K):=by
 refine F.okB jG (λvs H Q E h=> ?_) (λvs H Q E h=> ?_)
 ·obtain⟨th,tr,q,v,a7,rfl,_⟩:=h
  rfl
 obtain⟨th,tr,q,v,a7,rfl,TT,aH,hok,fh,bj,fW,fin⟩:=h;obtain⟨p,qv,hp,rp,rs,rfl,h1,h2,I,h4,Z⟩:=aH;obtain⟨aq,lV⟩:=jA TT hok;have cj:=zZ TT hok;have dX:=jJ TT hok;have N:(refs rs).length=rs.length:=w9 _;have rY:rs.length<=100000:=by rw [<-Z,w9]at bj;exact bj
 generalize hhs:za th q=hs at *;have hlen:(0:Int) < (((hs.map V.str).length:Nat):Int):=by
  have:=QN.mpr aq;rw [w9];lia
 intro ac A outer sh hr;refine⟨_,(ze (seT 2 jG (zr zS v1 (leN T.len (zl (ixT v0 zb) zd))))
  (ze (seT 3 jG (zr ke (j8 kj (ixT v0 zb) (jn v2) jx) (j8 kj (ixT v0 zb) jx (jn v2))))
  (ze (kO (z3M (cmT zK (zr zS (zr yb v1 zb) zb) zb) (cmT z6g (leN T.len (zf v3 zd)) zb))
   (zh (seT 3 jG (j8 kj v3 (jn zb) jx)))
   zu)
  (ze (kD (i:=4) jG.nd rfl (QH rfl) (yz rfl (CompSc.of (sx:=zm yg) (NX:= ["_law_state","_law_seed","_law_turn","_law_names","_law_spots","_law_rows","_law_line"]) (fr:= ["_law_state"]) (ix:= [0]) rfl rfl (by decide +kernel)) (jb v3) (λ_ _ _ _ _ _=>jM) (λ_ _ _ _ _ _=>(zdd (K:=K) rfl qj Q8 Qj (z9f (K:=K) rfl) (yK (z0j (K:=K) rfl) v1 zb (λ_ _=>rfl)) (zf v0 zd)))))
  (ze (jH (j:=5) rfl jG.nd rfl (QV rfl) (CompSc.of (sx:=zm yg) (NX:= ["_law_state","_law_seed","_law_turn","_law_names","_law_spots","_law_rows","_law_line"]) (fr:= ["_law_spots"]) (ix:= [4]) rfl rfl (by decide +kernel)) (jb (ixT v0 zb)) (λ_ _ _ _ _ _=>jM) (λ_ _ _ _ _ _=>(yz rfl (CompSc.of2 (sx:=zm yg) (NX:= ["_law_row","_law_spots"]) (fr:= ["_law_row"]) (ix:= [0]) rfl rfl (by decide +kernel)) (z6A (K:=K) rfl v1) (λ_ _ _ _ _ _=>jM) (λ_ _ _ _ _ _=>(yK (ki (K:=K) rfl) v1 v0 (λ_ _=>rfl))))))
  (ze (seT 6 jG (zr zp (zr zp (zr zp (zr zp zi (z1v PySem.F.plainAttrs_str PySem.F.slot_str_join PySem.F.type_str_join z8u zi (zf v3 zd))) zi) (ixT v0 zb)) zi))
  (zh (zt (zC (zH (zC (zo zi (zT (je z0Q rfl T.tuple Qz (zf v3 zd)) (zl (ixT v0 zb) zd)))) (zf (pv 6) (zf v3 (zf v5 zd))))))))))))),?_⟩
 generalize hK0:K=K1
 revert K1
 refine jo (by walk_at "cl") ?_;refine !(!(zg h1 ji ⟨hp,!⟨.inl (SqL.of I),ex2 rfl rfl ⟨hlen,?_⟩⟩⟩));obtain⟨t0,t1⟩:=z1n (i:=a7) hlen;obtain⟨tn,vB⟩:∃tn,a7 % (((hs.map V.str).length:Nat):Int)=tn:=⟨_,rfl⟩
 dsimp -proj only;rw [vB]at t0 t1 ⊢;refine !(zg h1 ji (!(!⟨hp,!⟨SqL.of I,λl1 f1=> ?_⟩⟩)));rw [z6j t0,<-List.map_drop];refine zc (upd _ l1 _) rfl f1 λH1 n1 x1=> ?_
 refine !(zg (n1 _ _ h1) ji (!(!⟨hp,!⟨SqL.of (n1 _ _ I),λl2 f2=> ?_⟩⟩)));rw [z22 t0,<-w0G];refine zc (upd _ l2 _) rfl f2 λH2 n2 x2=> ?_
 refine⟨_,_,ex2 rfl rfl ⟨n2 _ _ x1,x2,ja (by rw [w9,w9,w0I,wS];lia),λy f3=> ?_⟩⟩;rw [<-wC];refine zc (upd _ y _) rfl f3 λH3 n3 B=> ?_
 have pm:=z73 hs tn.toNat
 have U:(hs.drop tn.toNat ++ hs.take tn.toNat).length=hs.length:=pm.length_eq;have l:(hs.drop tn.toNat ++ hs.take tn.toNat).Nodup:=pm.nodup_iff.mpr lV;have b:∀n∈hs.drop tn.toNat ++ hs.take tn.toNat,n∈hs:=λn hn=>pm.mem_iff.mp hn
 generalize hs.drop tn.toNat ++ hs.take tn.toNat=ns0 at B U l b;have s3:=n1.trans (n2.trans n3);refine⟨λσ e=>∃(np:Addr) (ns:List Str),σ= [some (.ref p),some (.int a7),some (.int tn),some (.ref np),none,none,none]/\zz H e/\e np=some (.lst (ns.map V.str))/\ns≠ []/\ns.Nodup/\(∀n∈ns,n∈hs)/\ns.length<=1000,?_,?_⟩
 ·refine !(ex2 rfl rfl ⟨⟨by decide,by decide⟩,ex2 rfl rfl ⟨(by show(0:Int) < 3;decide),rfl,!⟨_,(!⟨y,!⟨.inl (SqL.of B),ex2 rfl rfl (!⟨rfl,rfl⟩)⟩⟩),?_⟩⟩⟩);refine yV (λS=> ?_) (λS=> ?_)
  ·rw [qT]at S;have eI:=qi S.2;rw [w9]at eI;refine !⟨1,rfl,y,!⟨SqL.of B,λl4 f4=> ?_⟩⟩;rw [z6j (by decide),<-List.map_drop];refine zc (upd _ l4 _) rfl f4 λe n4 d=> ?_
   refine⟨l4,ns0.drop 1,rfl,s3.trans n4,d,λz=> ?_,l.sublist (List.drop_sublist _ _),λn hn=>b n (List.mem_of_mem_drop hn),by rw [w0I];lia⟩;have:=Qa List.length z;rw [w0I]at this;simp at this
   lia
  ·refine⟨y,ns0,rfl,s3,B,λz=> ?_,l,b,by lia⟩;rw [z]at U;exact aq (QA.mp U.symm)
 ·rintro σ e ⟨np,ns,rfl,G,d,vC,l,b,vD⟩;have iw:∀n∈ns,n.length<=10:=λn hn=>cj n (b n hn)
  refine !⟨np,rfl,⟨_,SqL.of d⟩,?_⟩;refine jF (xs:=ns.map V.str) (λi ys H'=>zz e H'/\ys=(ns.take i).map λn=>V.int ((hs.idxOf n:Nat):Int)) ⟨zz.refl _,rfl⟩ ?_ ?_ ?_
  ·rintro i ys H' hi ⟨a,rfl⟩;exact⟨SqL.of (a _ _ d),zG (by rw [w9,wS];lia)⟩
  ·rintro i x ys H' hi ⟨a,rfl⟩;have L:i < ns.length:=by
    have:=(we.mp hi).1
    rwa [w9]at this
   rw [wO,wa L]at hi;cases hi;have fg:=yT (b _ (wG L));have g3:=(G.trans a) _ _ I;refine !(zg ((G.trans a) _ _ h1) ji ⟨.inl ⟨rfl,_,SqL.of g3⟩,!⟨hp,_,_,hs.idxOf ns[i],rfl,rfl,SqL.of g3,rfl,jd hs,fg.1,fg.2,a,?_⟩⟩);rw [q9,wa L,wC]
   rfl
  ·rintro ys H' ⟨a,rfl⟩ sp ao;rw [w9,qB];refine zc (upd _ sp _) rfl ao λH5 n5 x5=> ?_
   have s5:=G.trans (a.trans n5);have Y:=h4.same s5;refine !(zg (s5 _ _ h1) z0O ⟨rp,rfl,⟨_,SqL.of Y.1⟩,?_⟩);refine jF (xs:=refs rs) (λi ys H'=>zz H5 H'/\∃qs:List (Addr×List Int),ys=refs qs/\qs.length=i/\(∀r∈qs,H' r.1=some (.lst (r.2.map V.int)))/\qs.map (·.2)=((rs.map (·.2)).take i).map λr=>ns.map λn=>r.getD (hs.idxOf n) 0) ⟨zz.refl _,[],rfl,rfl,λ_ z=>(by cases z),rfl⟩ ?_ ?_ ?_
   ·rintro i ys O hi ⟨c,qs,rfl,hq,_,_⟩;rw [N]at hi;exact⟨SqL.of (c _ _ Y.1),zG (by rw [w9];lia)⟩
   ·rintro i x ys O hi ⟨c,qs,rfl,hq,fi,u⟩;have D:i < rs.length:=by
     have:=(we.mp hi).1
     rwa [N]at this
    rw [z09 D]at hi;cases hi;have bZ:=(Y.2 _ (wG D)).2;have iy:rs[i].2.length=hs.length:=dX _ (by rw [<-Z];exact qA.mpr ⟨_,wG D,rfl⟩);refine !⟨sp,rfl,⟨_,SqL.of (c _ _ x5)⟩,?_⟩;refine jF (xs:=ns.map λn=>V.int ((hs.idxOf n:Nat):Int)) (λm ys H'=>H'=O/\ys=((ns.take m).map λn=>rs[i].2.getD (hs.idxOf n) 0).map V.int) ⟨rfl,rfl⟩ ?_ ?_ ?_
    ·rintro m ys J hm ⟨rfl,rfl⟩;exact⟨SqL.of (c _ _ x5),zG (by rw [w9,w9,wS];lia)⟩
    ·rintro m x ys J hm ⟨rfl,rfl⟩;have M:m < ns.length:=by
      have:=(we.mp hm).1
      rwa [w9]at this
     rw [wO,wa M]at hm;cases hm;have bV:hs.idxOf ns[m] < rs[i].2.length:=by rw [iy];exact qP.mpr (b _ (wG M))
     refine !(!(zw (c _ _ bZ) (zX (int_at bV)) ⟨rfl,?_⟩));rw [q9,wa M,wC,wC]
     rfl
    ·rintro ys J ⟨rfl,rfl⟩ lp ae;rw [w9,qB];have t:=zJ ae (.lst ((ns.map λn=>rs[i].2.getD (hs.idxOf n) 0).map V.int));refine⟨c.trans t,qs ++ [(lp,ns.map λn=>rs[i].2.getD (hs.idxOf n) 0)],by simp [refs],by rw [wb,hq];rfl,λr m=> ?_,?_⟩
     ·rcases wx.mp m with m | m
      ·exact t _ _ (fi r m)
      ·rw [wu.mp m];exact zj
     ·rw [wC,u,q9,z3Y D,wC]
      rfl
   ·rintro ys O ⟨c,qs,rfl,hq,fi,u⟩ wp c8;rw [N,show(rs.map (·.2)).take rs.length=rs.map (·.2)from Qo (by rw [w9];exact ww _)]at u;refine zc (upd _ wp _) rfl c8 λJ n7 x7=> ?_
    have w7:=kc c8 n7 x7 fi;have vE:=c.trans n7;have C:=a.trans (n5.trans vE);have X:=G.trans C;have jl:=z4E iw;have sl:=z9z iw;refine⟨rfl,!⟨_,np,ns,rfl,rfl,SqL.of (C _ _ d),by rw [z1t];lia,ex2 rfl rfl ⟨by(walk_at "sl"),ex2 rfl rfl ⟨by(walk_at "sl"),!(zg (X _ _ h1) jc (ex2 rfl rfl ⟨by(walk_at "sl"),ex2 rfl rfl ⟨by(walk_at "sl"),?_⟩⟩))⟩⟩⟩⟩;refine !⟨np,!(.inl ⟨SqL.of (C _ _ d),λtp ax=> ?_⟩)⟩;refine zc (upd _ tp _) rfl ax λH8 t x8=> ?_
    refine !(zg (t _ _ (X _ _ h1)) zD ⟨(zq rfl),λqp c6=> ?_⟩);refine zc (upd _ qp _) rfl c6 λH9 n9 x9=> ?_
    refine !(!(!⟨(zq rfl),λo s=> ?_⟩));refine zc (upd _ o _) rfl s λad bw R=> ?_
    have fX:=t.trans (n9.trans bw);have m9:=X.trans fX;refine fin _ ns _ m9 ⟨o,_,np,wp,qs,rfl,R,⟨qp,tp,qv,rfl,bw _ _ x9,bw _ _ (n9 _ _ x8),h2.same m9⟩,(C.trans fX) _ _ d,w7.same fX,?_⟩ vC l b;rw [u,Z];simp only [rowsOf,hhs]
inductive spSorted (K:W.Frag) (vs:List V) (H:Hp) (Q:VK) (E:XK):Prop
 | mk:∀th tr q v a7,vs= [v,.int a7]->TabOk th tr->yJ th tr H v q->okQ th q->(zA q).length<=4000000->(rowsOf th tr q).length < 64->(∀(v':V) (n:Str) (H':Hp),zz H H'->yJ th tr H' v' (.sort n q)->n∈za th q->Q v' H')->spSorted K vs H Q E
theorem jP:FnScope ["_law_state","_law_seed","_law_name","_law_spot","_law_keys","_law_rows","_law_pair","_law_line"] ["_law_state","_law_seed"] (zm kR):=by walk_at "s"
theorem z42(F:Fun K "_law_sorted" "_law_sorted" kR f fd)(T:Txt K mg):FnOk P w K mg base CX0 1 f fd ["_law_state","_law_seed"] (spSorted K):=by
 refine F.okB jP (λvs H Q E h=> ?_) (λvs H Q E h=> ?_)
 ·obtain⟨th,tr,q,v,a7,rfl,_⟩:=h
  rfl
 obtain⟨th,tr,q,v,a7,rfl,TT,aH,hok,fh,bj,fin⟩:=h;obtain⟨p,qv,hp,rp,rs,rfl,h1,h2,D,y,S⟩:=aH;obtain⟨aq,lV⟩:=jA TT hok;have cj:=zZ TT hok;have dX:=jJ TT hok;have G:(refs rs).length=rs.length:=w9 _;have rY:rs.length < 64:=by rw [<-S,w9]at bj;exact bj
 have hlen:(0:Int) < ((((za th q).map V.str).length:Nat):Int):=by
  have:=QN.mpr aq;rw [w9];lia
 obtain⟨nm,mn,en⟩:=z1s (i:=a7) aq;have fg:=yT mn;have nl:=cj nm mn;intro ac A outer sh hr;refine⟨_,(ze (seT 2 jP (ixL (ixT v0 zb) (zr zS v1 (leN T.len (zl (ixT v0 zb) zd)))))
  (ze (kD (i:=3) jP.nd rfl (QH rfl) (z1v qj Q8 Qj z0z (ixT v0 zb) (zf v2 zd)))
  (ze (jH (j:=4) rfl jP.nd rfl (QV rfl) (CompSc.of (sx:=zm kR) (NX:= ["_law_state","_law_seed","_law_name","_law_spot","_law_keys","_law_rows","_law_pair","_law_line"]) (fr:= ["_law_state","_law_spot"]) (ix:= [0,3]) rfl rfl (by decide +kernel)) (yi rfl T.range (zT (leN T.len (zl (ixT v0 zb) zd)) zd)) (λ_ _ _ _ _ _=>jM) (λ_ _ _ _ _ _=>(zC (zl (yK (ki (K:=K) rfl) (yK (ki (K:=K) rfl) (yK (z0j (K:=K) rfl) v1 zb (λ_ _=>rfl)) v0 (λ_ _=>rfl)) v2 (λ_ _=>rfl)) (zf v0 zd)))))
  (ze (seT 5 jP (zx zd))
  (ze (foR (jb (zQ (z5D rfl) rfl T.sorted PyProof.Rows.boot_sorted (zf v4 zd))) (gnM 6 jP)
   (zh (jg (apP v5 (zl (ixL (ixT v0 zb) (ixT (pv 6) zb)) zd)))))
  (ze (seT 7 jP (zr zp (zr zp (zr zp (zr zp zi v2) zi) (ixT v0 zb)) zi))
  (zh (zt (zC (zH (zC (zo zi (zf v2 (zl (ixT v0 zb) zd)))) (zf (pv 7) (zl (ixT v0 zb) (zf v5 zd))))))))))))),?_⟩
 generalize hK0:K=K1
 revert K1
 refine jo (by walk_at "cl") ?_;refine !(zg h1 ji (!(!(zg h1 ji ⟨hp,!⟨.inl (SqL.of D),ex2 rfl rfl ⟨hlen,zw D en ?_⟩⟩⟩))));refine !(zg h1 ji ⟨.inl ⟨rfl,_,SqL.of D⟩,!⟨hp,_,_,(za th q).idxOf nm,rfl,rfl,SqL.of D,rfl,jd _,fg.1,fg.2,?_⟩⟩);have sl:∀r∈rs,(za th q).idxOf nm < r.2.length:=λr m=>by
  rw [dX r.2 (by rw [<-S];exact qA.mpr ⟨_,m,rfl⟩)];exact qP.mpr mn
 generalize ao:(za th q).idxOf nm=sp at sl;refine !(zg h1 z0O ⟨rp,!⟨.inl (SqL.of y.1),!⟨by lia,by rw [G];lia,?_⟩⟩⟩);refine z05 (lo:=0) (n:=(((refs rs).length:Nat):Int).toNat) (λi ys H'=>zz H H'/\∃ps:List PQ,ys=(ps.map λp=>V.ref p.1)/\ps.length=i/\(∀p∈ps,H' p.1=some (.tup [.int p.2.1,.int p.2.2]))/\∀(m:Nat) (hm:m < ps.length),ps[m].2=((rs.getD m (0,[])).2.getD sp 0,(m:Int))) ⟨zz.refl _,[],rfl,rfl,λ_ z=>(by cases z),λm hm=>absurd hm (Nat.not_lt_zero _)⟩ ?_ ?_ ?_
 ·rintro i ys H' hi ⟨s,ps,rfl,hq,_,_⟩;rw [Int.toNat_natCast,G]at hi;exact zG (by rw [w9];lia)
 ·rintro i ys H' hi ⟨s,ps,rfl,hq,J,X⟩;rw [Int.toNat_natCast,G]at hi;have bZ:=s _ _ (y.2 _ (wG hi)).2;refine !(zg (s _ _ h1) z0O (!(zw (s _ _ y.1) (z68 hi) (!(zw bZ (zX (int_at (sl _ (wG hi)))) (!⟨(zq rfl),λtp ax=> ?_⟩))))));have u:=zJ ax (.tup [V.int (rs[i].2.getD sp 0),V.int (0 + (i:Int))]);refine⟨s.trans u,ps ++ [(tp,rs[i].2.getD sp 0,0 + (i:Int))],by simp,by rw [wb,hq];rfl,λr m=> ?_,λm hm=> ?_⟩
  ·rcases wx.mp m with m | m
   ·exact u _ _ (J r m)
   ·rw [wu.mp m];exact zj
  ·rw [wb,wD]at hm;by_cases gA:m < ps.length
   ·rw [List.getElem_append_left gA];exact X m gA
   ·have em:m=ps.length:=by lia
    subst em;rw [List.getElem_append_right (ww _)];simp only [Nat.sub_self,List.getElem_cons_zero];rw [hq,wo (l:=rs),wa hi,w0D]
    rfl
 ·rintro ys H' ⟨s,ps,rfl,hq,J,X⟩ kp eF;rw [Int.toNat_natCast,G]at hq;refine zc (upd _ kp _) rfl eF λH1 u x1=> ?_
  have s1:=s.trans u;refine⟨(zq rfl),λd c8=> ?_⟩;refine zc (upd _ d _) rfl c8 λH2 I x2=> ?_
  have s2:=s1.trans I;have iz:H d=none:=s1.free c8;refine !⟨kp,ps,rfl,SqL.of (I _ _ x1),λp m=>I _ _ (u _ _ (J p m)),by lia,λdp c dY pm pw=> ?_⟩;have dZ:dp≠d:=(zy x2 dY).symm;refine zc (upd _ dp _) rfl dY λH3 M x3=> ?_
  rw [hq]at pm;have mem:∀i∈c,i < rs.length:=λi hi=>Qf.mp (pm.mem_iff.mp hi)
  have N:∀i,i < rs.length->(ps.getD i pq0).2=((rs.getD i (0,[])).2.getD sp 0,(i:Int)):=λi hi=>by
   rw [wo,wa (by lia)];exact X i (by lia)
  have s3:=s2.trans M;refine⟨dp,rfl,⟨_,SqL.of x3⟩,km (K:=K) (a:=dp) (xs:=c.map λi=>V.ref (ps.getD i pq0).1) (λi σ H'=>∃R:Option V,σ= [some (.ref p),some (.int a7),some (.str nm),some (.int ((sp:Nat):Int)),some (.ref kp),some (.ref d),R,none]/\zz H H'/\H' dp=some (.lst (c.map λi=>V.ref (ps.getD i pq0).1))/\(∀p∈ps,H' p.1=some (.tup [.int p.2.1,.int p.2.2]))/\
   RowsAt H' d ((c.take i).map λi=>rs.getD i (0,[]))) ⟨none,rfl,s3,x3,λp m=>M _ _ (I _ _ (u _ _ (J p m))),kC (M _ _ x2)⟩ (λi σ H' _ ⟨_,_,_,z,_⟩=>SqL.of z) ?_ ?_⟩
  ·rintro i x σ H4 hi ⟨R,rfl,o,d4,L,t⟩;have U:i < c.length:=by
    have:=(we.mp hi).1
    rwa [w9]at this
   rw [wO,wa U]at hi;cases hi;have e:=mem _ (wG U);have mp:ps.getD c[i] pq0∈ps:=by
    rw [wo,wa (by lia)];exact wG _
   have ek:=N _ e;have e2:(ps.getD c[i] pq0).2.2=((c[i]:Nat):Int):=by rw [ek]
   have Y:=y.same o;have eg:rs.getD c[i] (0,[])=rs[c[i]]:=by rw [wo,wa e];rfl
   refine !⟨.inl ⟨rfl,_,SqL.of t.1⟩,!(zg (o _ _ h1) z0O (!(zg (L _ mp) jc ⟨rp,_,_,V.ref rs[c[i]].1,rfl,rfl,SqL.of Y.1,by rw [e2];exact zX (z09 e),d,ex2 rfl rfl ⟨t.1,zG (by rw [w9,w9,wS,pm.length_eq,List.length_range];lia),?_⟩⟩)))⟩;refine !⟨o.put iz,by rw [zn dZ];exact d4,λq' m=>by rw [zn (z5u (L q' m) t.1 (by intro z;cases z))];exact L q' m,?_⟩;rw [q9,wa U,wC];have rr:=(Y.2 _ (wG e));have vF:rs[c[i]].1≠d:=λz=>by
    have:=(y.2 _ (wG e)).2;rw [z,iz]at this;cases this
   have:=t.push (q:=rs[c[i]].1) (x:=rs[c[i]].2) vF rr.2
   show RowsAt _ d (_ ++ [rs.getD c[i] (0,[])])
   rw [eg];exact this
  ·rintro σ H4 ⟨R,rfl,o,d4,L,t⟩;rw [w9,qB]at t;refine !(ex2 rfl rfl ⟨by(walk_at "sl"),ex2 rfl rfl ⟨by(walk_at "sl"),!(zg (o _ _ h1) jc (ex2 rfl rfl ⟨by(walk_at "sl"),ex2 rfl rfl ⟨by(walk_at "sl"),?_⟩⟩))⟩⟩);refine !(!(zg (o _ _ h1) zD ⟨(zq rfl),λqp c6=> ?_⟩));refine zc (upd _ qp _) rfl c6 λH5 n5 x5=> ?_
   refine !(!(zg (n5 _ _ (o _ _ h1)) ji (!⟨(zq rfl),λB C=> ?_⟩)));refine zc (upd _ B _) rfl C λH6 n6 x6=> ?_
   have gH:=n5.trans n6;have O:=o.trans gH;refine fin _ nm _ O ⟨B,_,hp,d,!⟨x6,⟨qp,qv,rfl,n6 _ _ x5,h2.same O⟩,O _ _ D,t.same gH,?_⟩⟩ mn
   show _=z06 ((za th q).idxOf nm) (rowsOf th tr q)
   rw [ao,<-S];unfold z06;have e0:c=z2j (z3m (rs.map (·.2)) sp) (rs.map (·.2)).length:=by
    rw [w9];refine z6z pm (QQ.mpr λa b ha hb cX=> ?_);have h0:=QQ.mp pw a b ha hb cX;have ka:∀i,i < rs.length->z3m (rs.map (·.2)) sp i=(rs.getD i (0,[])).2.getD sp 0:=λi hi=>by
     unfold z3m;rw [z79 hi,wo (l:=rs),wa hi]
     rfl
    have Z:=mem _ (wG ha);have mb:=mem _ (wG hb);rw [N _ Z,N _ mb]at h0;have h0:=of_decide_eq_false h0;refine wN ?_;rw [ka _ Z,ka _ mb];replace h0:¬((rs.getD c[b] (0,[])).2.getD sp 0 < (rs.getD c[a] (0,[])).2.getD sp 0\/(rs.getD c[b] (0,[])).2.getD sp 0=(rs.getD c[a] (0,[])).2.getD sp 0/\((c[b]:Nat):Int) < ((c[a]:Nat):Int)):=h0
    lia
   rw [<-e0,w0U];refine w1a λi hi=> ?_
   have e:=mem i hi
   show(rs.getD i (0,[])).2=_
   rw [z79 e,wo,wa e]
   rfl
theorem z7c{s:Nat}{rows:List (List Int)}{r:List Int}(h:rows[i]? =some r):z0K s (rows.take (i + 1))=if r.getD s 0∈z0K s (rows.take i)then z0K s (rows.take i)else z0K s (rows.take i) ++ [r.getD s 0]:=by
 unfold z0K;rw [q9,h,List.foldl_append]
 rfl
theorem z5v{s:Nat}(rows:List (List Int)):(z0K s rows).length<=rows.length:=by
 have go:∀(rows:List (List Int)) (a:List Int),(rows.foldl (λa r=>if r.getD s 0∈a then a else a ++ [r.getD s 0]) a).length<=a.length + rows.length:=by
  intro rows
  induction rows with
  | nil=>intro a;exact ww _
  | cons r rows b=>
   intro a;rw [List.foldl_cons,wJ];refine wV (b _) ?_;split
   ·lia
   ·rw [wb,wD];lia
 have:=go rows [];rw [Qe,w1g]at this;exact this
theorem z8J{x:Int}:∀{xs:List Int},inV (.int x) (xs.map V.int)=decide (x∈xs)
 | []=>by simp [inV]
 | y :: ys=>by
  have a:=z8J (x:=x) (xs:=ys);unfold inV at a ⊢;rw [wR,w1j,a]
  show((y == x) || decide (x∈ys))=_
  by_cases h:y=x
  ·subst h;simp
  ·rw [show(y == x)=false by simpa using h,Bool.false_or];by_cases m:x∈ys
   ·simp [m]
   ·have b:¬x=y:=λz=>h z.symm
    simp [m,b]
theorem z9x(xs:List Int):(xs.map V.int).all yM=true:=by
 rw [List.all_map];exact qH.mpr λ_ _=>rfl
inductive spCounted (K:W.Frag) (vs:List V) (H:Hp) (Q:VK) (E:XK):Prop
 | mk:∀th tr q v a7 g,vs= [v,.int a7,.str g]->TabOk th tr->yJ th tr H v q->okQ th q->g.length=1->(zA q).length<=4000000->(rowsOf th tr q).length<=100000->(∀(v':V) (a b:Str) (H':Hp),zz H H'->yJ th tr H' v' (.group a b (("n":Str) ++ g) (("s":Str) ++ g) q)->a∈za th q->b∈za th q->Q v' H')->spCounted K vs H Q E
theorem zR:FnScope ["_law_state","_law_seed","_law_sign","_law_by","_law_of","_law_spot","_law_place","_law_rows","_law_row","_law_same","_law_total","_law_names","_law_line","_law_question"] ["_law_state","_law_seed","_law_sign"] (zm yj):=by walk_at "s"
theorem z3C(F:Fun K "_law_counted" "_law_counted" yj f fd)(T:Txt K mg):FnOk P w K mg base CX0 1 f fd ["_law_state","_law_seed","_law_sign"] (spCounted K):=by
 refine F.okB zR (λvs H Q E h=> ?_) (λvs H Q E h=> ?_)
 ·obtain⟨th,tr,q,v,a7,g,rfl,_⟩:=h
  rfl
 obtain⟨th,tr,q,v,a7,g,rfl,TT,aH,hok,gl,fh,bj,fin⟩:=h;obtain⟨p,qv,hp,rp,rs,rfl,h1,h2,l,n,h5⟩:=aH;obtain⟨aq,lV⟩:=jA TT hok;have cj:=zZ TT hok;have dX:=jJ TT hok;have N:(refs rs).length=rs.length:=w9 _;have rY:rs.length<=100000:=by rw [<-h5,w9]at bj;exact bj
 have hlen:(0:Int) < ((((za th q).map V.str).length:Nat):Int):=by
  have:=QN.mpr aq;rw [w9];lia
 obtain⟨a,L,ea⟩:=z1s (i:=a7) aq;obtain⟨b,mb,eb⟩:=z1s (i:=a7 / 2) aq;have ia:=yT L;have ib:=yT mb;have la:=cj a L;have lb:=cj b mb;intro ac A outer sh hr;refine⟨_,(ze (seT 3 zR (ixL (ixT v0 zb) (zr zS v1 (leN T.len (zl (ixT v0 zb) zd)))))
  (ze (seT 4 zR (ixL (ixT v0 zb) (zr zS (zr yb v1 zb) (leN T.len (zl (ixT v0 zb) zd)))))
  (ze (kD (i:=5) zR.nd rfl (QH rfl) (z1v qj Q8 Qj z0z (ixT v0 zb) (zf v3 zd)))
  (ze (kD (i:=6) zR.nd rfl (QH rfl) (z1v qj Q8 Qj z0z (ixT v0 zb) (zf v4 zd)))
  (ze (seT 7 zR (zx zd))
  (ze (foR (jb (ixT v0 zb)) (z0J (i:=8) zR.nd rfl (QH rfl))
   (zh (zF (jR yH (ixL (pv 8) v5) (yz rfl (CompSc.of (sx:=zm yj) (NX:= ["_law_state","_law_seed","_law_sign","_law_by","_law_of","_law_spot","_law_place","_law_rows","_law_row","_law_same","_law_total","_law_names","_law_line","_law_question"]) (fr:= []) (ix:= []) rfl rfl (by decide +kernel)) (jb (pv 7)) (λ_ _ _ _ _ _=>jM) (λ_ _ _ _ _ _=>(yK (ki (K:=K) rfl) v0 zb (λ_ _=>rfl)))) (by with_unfolding_all rfl))
    (ze (jH (j:=9) rfl zR.nd rfl (QV rfl) (CompSc.of (sx:=zm yj) (NX:= ["_law_state","_law_seed","_law_sign","_law_by","_law_of","_law_spot","_law_place","_law_rows","_law_row","_law_same","_law_total","_law_names","_law_line","_law_question"]) (fr:= ["_law_spot","_law_row"]) (ix:= [5,8]) rfl rfl (by decide +kernel)) (jb (ixT v0 zb)) (λ_ _ _ _ _ _=>(z0F (cmT zK (yK (ki (K:=K) rfl) v0 v1 (λ_ _=>rfl)) (yK (ki (K:=K) rfl) v2 v1 (λ_ _=>rfl))))) (λ_ _ _ _ _ _=>v0))
    (ze (seT 10 zR (zQ (z2Z rfl) rfl T.sum w0V (z1g (yz rfl (CompSc.of (sx:=zm yj) (NX:= ["_law_state","_law_seed","_law_sign","_law_by","_law_of","_law_spot","_law_place","_law_rows","_law_row","_law_same","_law_total","_law_names","_law_line","_law_question"]) (fr:= ["_law_place"]) (ix:= [6]) rfl rfl (by decide +kernel)) (jb (pv 9)) (λ_ _ _ _ _ _=>jM) (λ_ _ _ _ _ _=>(yK (ki (K:=K) rfl) v0 v1 (λ_ _=>rfl)))) zd)))
    (zh (jg (apP (pv 7) (jL (zx (zl (ixL (pv 8) v5) (zT (leN T.len (zf (pv 9) zd)) (zf (pv 10) zd)))) zd))))))
    zu)))
  (ze (seT 11 zR (zr zp (zr zp (zr zp (zr zp (zr zp (zr zp v3 zi) v4) zi) v2) zi) v2))
  (ze (seT 12 zR (zr zp (zr zp (zr zp (zr zp zi (pv 11)) zi) (ixT v0 zb)) zi))
  (ze (seT 13 zR (zC (zo zi (zf v3 (zf v4 (yo (zr zp zi v2) (yo (zr zp zi v2) (zl (ixT v0 zb) zd))))))))
  (zh (zt (zC (zf (pv 13) (zf (pv 12) (jL (zx (zf v3 (yo (zr zp zi v2) (yo (zr zp zi v2) zd)))) (zf (pv 7) zd)))))))))))))))),?_⟩
 generalize hK0:K=K1
 revert K1
 refine jo (by walk_at "cl") ?_;refine !(zg h1 ji (!(!(zg h1 ji ⟨hp,!⟨.inl (SqL.of l),ex2 rfl rfl ⟨hlen,zw l ea ?_⟩⟩⟩))));refine !(zg h1 ji (!(ex2 rfl rfl ⟨⟨by decide,by decide⟩,!(zg h1 ji ⟨hp,!⟨.inl (SqL.of l),ex2 rfl rfl ⟨hlen,zw l eb ?_⟩⟩⟩)⟩)));refine !(zg h1 ji ⟨.inl ⟨rfl,_,SqL.of l⟩,!⟨hp,_,_,(za th q).idxOf a,rfl,rfl,SqL.of l,rfl,jd _,ia.1,ia.2,?_⟩⟩);refine !(zg h1 ji ⟨.inl ⟨rfl,_,SqL.of l⟩,!⟨hp,_,_,(za th q).idxOf b,rfl,rfl,SqL.of l,rfl,jd _,ib.1,ib.2,?_⟩⟩);have bC:∀r∈rs,r.2.length=(za th q).length:=λr m=>dX r.2 (by rw [<-h5];exact qA.mpr ⟨_,m,rfl⟩)
 have oA:∀r∈rs,(za th q).idxOf a < r.2.length:=λr m=>by rw [bC r m];exact qP.mpr L
 have rZ:∀r∈rs,(za th q).idxOf b < r.2.length:=λr m=>by rw [bC r m];exact qP.mpr mb
 generalize hsa:(za th q).idxOf a=sa at oA;generalize hsb:(za th q).idxOf b=t at rZ;refine⟨(zq rfl),λd c8=> ?_⟩;refine zc (upd _ d _) rfl c8 λH1 n1 x1=> ?_
 have Cw:∀r∈rs,r.1≠d:=λr m=>zy (n.2 r m).2 c8
 refine !(zg (n1 _ _ h1) z0O ⟨rp,rfl,⟨_,SqL.of (n1 _ _ n.1)⟩,km (K:=K) (a:=rp) (xs:=refs rs) (λi σ H'=>∃(qs:List (Addr×List Int)) (o8 Y oB:Option V),σ= [some (.ref p),some (.int a7),some (.str g),some (.str a),some (.str b),some (.int ((sa:Nat):Int)),some (.int ((t:Nat):Int)),some (.ref d),o8,Y,oB,none,none,none]/\zz H H'/\RowsAt H' d qs/\
  qs.map (·.2)=(z0K sa ((rs.map (·.2)).take i)).map (z3P sa t (rs.map (·.2)))) ⟨[],none,none,none,rfl,n1,kC x1,rfl⟩ (λi σ H' _ ⟨_,_,_,_,_,sm,_⟩=>SqL.of (sm _ _ n.1)) ?_ ?_⟩)
 ·rintro i x σ H2 hi ⟨qs,o8,Y,oB,rfl,s2,w2,c⟩;have y:i < rs.length:=by
   have:=(we.mp hi).1
   rwa [N]at this
  rw [z09 y]at hi;cases hi;have kl:(z0K sa ((rs.map (·.2)).take i)).length<=100000:=by
   have:=z5v (s:=sa) ((rs.map (·.2)).take i);rw [wS,w9]at this
   lia
  have lq:qs.length=(z0K sa ((rs.map (·.2)).take i)).length:=by
   have:=Qa List.length c
   rwa [w9,w9]at this
  have gJ:(refs qs).length=qs.length:=w9 _;have C:=z7c (s:=sa) (z3Y y);have hR:=s2 _ _ (n.2 _ (wG y)).2;have Z:=oA _ (wG y);have qk:qs.map (λr=>r.2.getD 0 0)=z0K sa ((rs.map (·.2)).take i):=by
   have:=Qa (List.map λr:List Int=>r.getD 0 0) c;rw [w0U,w0U]at this;refine this.trans ?_
   conv=>rhs;rw [<-List.map_id (z0K sa ((rs.map (·.2)).take i))]
   rfl
  have q3:∀r∈qs,r.2.length=3:=λr m=>by
   have:r.2∈qs.map (·.2):=qA.mpr ⟨r,m,rfl⟩;rw [c]at this;obtain⟨k,_,e⟩:=qA.mp this;rw [<-e]
   rfl
  generalize z0K sa ((rs.map (·.2)).take i)=ks at c kl lq C qk;refine !(!(zw hR (zX (int_at Z)) (!⟨d,rfl,⟨_,SqL.of w2.1⟩,?_⟩)));refine jF (xs:=refs qs) (λm ys H'=>H'=H2/\ys=((qs.take m).map λr=>r.2.getD 0 0).map V.int) ⟨rfl,rfl⟩ ?_ ?_ ?_
  ·rintro m ys I hm ⟨rfl,rfl⟩;exact⟨SqL.of w2.1,zG (by rw [w9,w9,wS];lia)⟩
  ·rintro m x ys I hm ⟨rfl,rfl⟩;have S:m < qs.length:=by
    have:=(we.mp hm).1
    rwa [gJ]at this
   rw [z09 S]at hm;cases hm;refine !(zw ((w2.2 _ (wG S)).2) (zX (j:=0) (int_at (by rw [q3 _ (wG S)];decide))) ⟨rfl,?_⟩);rw [q9,wa S,wC,wC]
   rfl
  ·rintro ys I ⟨rfl,rfl⟩ lp ae;rw [gJ,qB,qk];refine zc (upd _ lp _) rfl ae λI J x3=> ?_
   refine⟨lp,!⟨.inl (SqL.of x3),rfl,z9x _,!?_⟩⟩;rw [z8J];have R:=s2.trans J;have w3:=w2.same J;refine yV (λhb=> ?_) (λhb=> ?_)
   ·have cA:¬rs[i].2.getD sa 0∈ks:=by simpa using hb
    rw [wM cA]at C;have U:=n.same R;refine !(zg (R _ _ h1) z0O ⟨rp,rfl,⟨_,SqL.of U.1⟩,?_⟩);refine kF (xs:=refs rs) (λm ys H'=>H'=I/\ys=refs ((rs.take m).filter λr=>decide (r.2.getD sa 0=rs[i].2.getD sa 0))) ⟨rfl,rfl⟩ ?_ ?_ ?_
    ·rintro m ys z hm ⟨rfl,rfl⟩;refine⟨SqL.of U.1,zG ?_⟩;have:=qz (λr:Addr×List Int=>decide (r.2.getD sa 0=rs[i].2.getD sa 0)) (rs.take m);rw [w9];rw [wS]at this
     lia
    ·rintro m x ys z hm ⟨rfl,rfl⟩;have O:m < rs.length:=by
      have:=(we.mp hm).1
      rwa [N]at this
     rw [z09 O]at hm;cases hm;have ft:=z1R (λr:Addr×List Int=>decide (r.2.getD sa 0=rs[i].2.getD sa 0)) rs (wa O);refine !(!(zw ((U.2 _ (wG O)).2) (zX (int_at (oA _ (wG O)))) (!(!(zw ((U.2 _ (wG y)).2) (zX (int_at Z)) ⟨rfl,!?_⟩)))));rw [z40];refine yV (λhc=> ?_) (λhc=> ?_)
     ·refine !⟨rfl,?_⟩;rw [ft,wU hc];simp [refs]
     ·refine⟨rfl,?_⟩;rw [ft,wM hc,Qb]
    ·rintro ys z ⟨rfl,rfl⟩ mp oE;rw [N,qB];refine zc (upd _ mp _) rfl oE λz B u=> ?_
     have s4:=R.trans B;have fl:(rs.filter λr=>decide (r.2.getD sa 0=rs[i].2.getD sa 0)).length<=rs.length:=qz _ _;have fm:∀r∈rs.filter (λr=>decide (r.2.getD sa 0=rs[i].2.getD sa 0)),r∈rs:=λr m=>(Qp.mp m).1
     have fe:(rs.filter λr=>decide (r.2.getD sa 0=rs[i].2.getD sa 0)).map (·.2)=(rs.map (·.2)).filter λr=>decide (r.getD sa 0=rs[i].2.getD sa 0):=by
      rw [w0h]
      rfl
     generalize (rs.filter λr=>decide (r.2.getD sa 0=rs[i].2.getD sa 0))=fs at u fl fm fe;have oF:(refs fs).length=fs.length:=w9 _;have j4:=n.same s4;refine !⟨mp,rfl,⟨_,SqL.of u⟩,?_⟩;refine jF (xs:=refs fs) (λm ys H'=>H'=z/\ys=((fs.take m).map λr=>r.2.getD t 0).map V.int) ⟨rfl,rfl⟩ ?_ ?_ ?_
     ·rintro m ys M hm ⟨rfl,rfl⟩;exact⟨SqL.of u,zG (by rw [w9,w9,wS];lia)⟩
     ·rintro m x ys M hm ⟨rfl,rfl⟩;have oG:m < fs.length:=by
       have:=(we.mp hm).1
       rwa [oF]at this
      rw [z09 oG]at hm;cases hm;have mr:=fm _ (wG oG);refine !(!(zw ((j4.2 _ mr).2) (zX (int_at (rZ _ mr))) ⟨rfl,?_⟩));rw [q9,wa oG,wC,wC]
      rfl
     ·rintro ys M ⟨rfl,rfl⟩ tp ax;rw [oF,qB];refine zc (upd _ tp _) rfl ax λM o X=> ?_
      refine⟨tp,!⟨SqL.of X,?_⟩⟩;have G:=s4.trans o;have w5:=w3.same (B.trans o);refine !⟨.inl ⟨rfl,_,SqL.of w5.1⟩,!(!(zw (G _ _ (n.2 _ (wG y)).2) (zX (int_at Z)) (!⟨mp,!⟨.inl (SqL.of (o _ _ u)),!⟨(zq rfl),λgp D=> ?_⟩⟩⟩)))⟩;have n6:=zJ D (.lst [V.int (rs[i].2.getD sa 0),V.int (((refs fs).length:Nat):Int),V.int (fs.map λr=>r.2.getD t 0).sum]);have w6:=w5.same n6;refine⟨d,ex2 rfl rfl ⟨w6.1,zG (by rw [w9];lia),?_⟩⟩;have nq:gp≠d:=(zy w5.1 D).symm;refine⟨qs ++ [(gp,[rs[i].2.getD sa 0,((fs.length:Nat):Int),(fs.map λr=>r.2.getD t 0).sum])],_,_,!⟨(G.trans n6).put c8,w6.push nq (by rw [zj,oF];rfl),?_⟩⟩;rw [wC,c,C,wC]
      congr 1
      show [_]= [z3P sa t (rs.map (·.2)) (rs[i].2.getD sa 0)]
      unfold z3P;rw [<-fe,w9,w0U]
      rfl
   ·have cA:rs[i].2.getD sa 0∈ks:=by simpa using hb
    rw [wU cA]at C;refine⟨qs,_,_,!⟨R,w3,?_⟩⟩;rw [c,C]
 ·rintro σ H2 ⟨qs,o8,Y,oB,rfl,s2,w2,c⟩;rw [N,show(rs.map (·.2)).take rs.length=rs.map (·.2)from Qo (by rw [w9];exact ww _)]at c;have g1:=s2 _ _ h1;refine !(ex2 rfl rfl ⟨by(walk_at "sl"),!(ex2 rfl rfl ⟨by(walk_at "sl"),ex2 rfl rfl ⟨by(walk_at "sl"),!(ex2 rfl rfl ⟨by(walk_at "sl"),ex2 rfl rfl ⟨by(walk_at "sl"),!(ex2 rfl rfl ⟨by(walk_at "sl"),?_⟩)⟩⟩)⟩⟩)⟩);refine !(ex2 rfl rfl ⟨by(walk_at "sl"),ex2 rfl rfl ⟨by(walk_at "sl"),!(zg g1 jc (ex2 rfl rfl ⟨by(walk_at "sl"),ex2 rfl rfl ⟨by(walk_at "sl"),?_⟩⟩))⟩⟩);refine !(!(!(ex2 rfl rfl ⟨by(walk_at "sl"),!(ex2 rfl rfl ⟨by(walk_at "sl"),!(zg g1 zD ⟨(zq rfl),λqp c6=> ?_⟩)⟩)⟩)));refine zc (upd _ qp _) rfl c6 λI J x3=> ?_
  refine !(!(!(!(ex2 rfl rfl ⟨by(walk_at "sl"),!(ex2 rfl rfl ⟨by(walk_at "sl"),(zq rfl),λlp ae=> ?_⟩)⟩))));refine zc (upd _ lp _) rfl ae λz B u=> ?_
  refine !⟨(zq rfl),λsp ao=> ?_⟩;refine zc (upd _ sp _) rfl ao λM o X=> ?_
  have io:=J.trans (B.trans o);have G:=s2.trans io;have el:(("(group ":Str) ++ (a ++ " " ++ b ++ " n" ++ g ++ " s" ++ g) ++ " " ++ zA q ++ ")":Str)=zA (.group a b (("n":Str) ++ g) (("s":Str) ++ g) q):=by
   simp only [zA];have e1:(" n":Str)=(" ":Str) ++ ("n":Str):=by decide +kernel
   have c:(" s":Str)=(" ":Str) ++ ("s":Str):=by decide +kernel
   rw [e1,c];simp only [Str.append_assoc]
  rw [el]at X;refine fin _ a b _ G ⟨sp,_,lp,d,qs,rfl,X,⟨qp,qv,rfl,o _ _ (B _ _ x3),h2.same G⟩,o _ _ u,w2.same io,?_⟩ L mb;rw [c,h5];simp only [rowsOf,zab,hsa,hsb]
noncomputable def zv:Qn->Nat
 | .table _=>1
 | .pick _ q | .cols _ q | .first _ q | .group _ _ _ _ q | .sort _ q=>zv q
 | .pair q r | .join _ _ q r | .both q r=>zv q + zv r
theorem yp(q:Qn):1<=zv q:=by induction q <;> simp only [zv] <;> lia
def z25(th:Str->List Str)(tr:Str->List (List Int)):Qn->Prop
 | .table n=>(tr n).length<=60
 | .pick _ q | .cols _ q | .first _ q | .group _ _ _ _ q | .sort _ q=>z25 th tr q
 | .pair q r | .join _ _ q r=>z25 th tr q/\z25 th tr r/\(rowsOf th tr q).length * (rowsOf th tr r).length<=60
 | .both q r=>z25 th tr q/\z25 th tr r/\(rowsOf th tr q).length + (rowsOf th tr r).length<=60
theorem z6w(T:TabOk th tr):∀n∈tabs,(tr n).length<=60:=by
 intro n hn;simp only [tabs,wE,qf,Qu]at hn;rcases hn with rfl | rfl | rfl | rfl
 ·exact T.ct
 ·have:=T.cw;lia
 ·have:=T.cx;lia
 ·have:=T.cz;lia
structure Rt(th:Str->List Str)(tr:Str->List (List Int))(n:Str)(r:Qn)(k:Nat):Prop where
 ok:okQ th r
 hd:za th r=th n
 ln:(rowsOf th tr r).length<=(tr n).length
 li:(zA r).length<=10 + 100 * k
 dp:depth r<=1 + 2 * k
 sub:z25 th tr r
 lv:zv r=1
structure Un2(th:Str->List Str)(tr:Str->List (List Int))(q:Qn)(n:Str)(q':Qn):Prop where
 ok:okQ th q'
 hd:za th q'=za th q ++ th n\/za th q'=th n ++ za th q
 ln:(rowsOf th tr q').length<=(rowsOf th tr q).length * (tr n).length
 li:(zA q').length<=(zA q).length + 600
 dp:depth q'<=max (depth q) 5 + 2
 nt:∀m,q'≠ .table m
 sub:z25 th tr q->(rowsOf th tr q).length * (tr n).length<=60->z25 th tr q'
 lv:zv q'=zv q + 1
theorem pairs_len(xs ys:List (List Int)):(pairs xs ys).length=xs.length * ys.length:=by
 unfold pairs
 induction xs with
 | nil=>simp
 | cons x xs a=>
  rw [w0B,wb,w9,a,wJ,QY,w1b,Nat.add_comm]
theorem z7y{xs:List (List Int)}(h:xs[i]? =some x):pairs (xs.take (i + 1)) ys=pairs (xs.take i) ys ++ ys.map λy=>x ++ y:=by
 unfold pairs;rw [q9,h,w0H];simp
theorem z5d(s:Nat)(rows:List (List Int)):(z06 s rows).length=rows.length:=by
 unfold z06;rw [w9,z7v]
inductive spUnited (K:W.Frag) (vs:List V) (H:Hp) (Q:VK) (E:XK):Prop
 | mk:∀th tr q n v tv a7,vs= [v,tv,.int a7]->TabOk th tr->yJ th tr H v q->okQ th q->TabAt th tr H tv n->n∈tabs->(∀x∈za th q,x∉th n)->(zA q).length<=4000000->(rowsOf th tr q).length<=1000->(tr n).length < 64->(za th q).length<=1000->(th n).length<=1000->(∀(v':V) (q':Qn) (H':Hp),zz H H'->yJ th tr H' v' q'->Un2 th tr q n q'->Q v' H')->spUnited K vs H Q E
theorem zaL:∀n∈tabs,n.length<=10:=by decide +kernel
theorem z7Z{r:List Int}(h:s∈hs)(hl:r.length=hs.length):hs.idxOf s < r.length:=by rw [hl];exact qP.mpr h
theorem zB:FnScope ["_law_state","_law_table","_law_seed","_law_left","_law_right","_law_heads","_law_rows","_law_one","_law_two","_law_name","_law_other","_law_line","_law_question","_law_spot","_law_place","_law_same"] ["_law_state","_law_table","_law_seed"] (zm kZ):=by walk_at "s"
set_option maxHeartbeats 1600000 in
theorem z3Z(F:Fun K "_law_united" "_law_united" kZ f fd)(T:Txt K mg)(p:Kn P w K mg base 1 "_law_sorted" ["_law_state","_law_seed"] (spSorted K))(s:Kn P w K mg base 1 "_law_headed" ["_law_state","_law_seed"] (spHeaded K)):FnOk P w K mg base CX0 2 f fd ["_law_state","_law_table","_law_seed"] (spUnited K):=by
 refine F.okB zB (λvs H Q E h=> ?_) (λvs H Q E h=> ?_)
 ·obtain⟨th,tr,q,n,v,tv,a7,rfl,_⟩:=h
  rfl
 obtain⟨th,tr,q,n,v,tv,a7,rfl,TT,aH,hok,ht,mn,dj,fh,bj,lX,fW,sf,fin⟩:=h;obtain⟨tp,lY,iq,ts,rfl,t1,t3,t4,t5⟩:=ht;have nl:=zaL n mn;intro ac A outer sh hr;have hu:=z1u hr;refine⟨_,(ze (seT 3 zB v0)
  (ze (seT 4 zB (zC (zH (zC (zo zi (zl (ixT v1 zb) zd))) (zl (ixT v1 zb) (zl (ixT v1 zb) (zl (ixT v1 zb) zd))))))
  (ze (kO (cmT zK (zr zS v2 zb) zb)
   (zh (seT 4 zB (zV p hr.m (zf v4 (yo (zr yb v2 zb) zd)))))
   zu)
  (ze (kO (cmT zK (zr zS v2 zb) zb)
   (zh (seT 4 zB (zV s hr.m (zf v4 (zo zb zd)))))
   zu)
  (ze (kO (cmT zK (zr zS (zr yb v2 zb) zb) zb)
   (ze (seT 3 zB v4)
   (zh (seT 4 zB v0)))
   zu)
  (ze (seT 5 zB (zr ke (ixT v3 zb) (ixT v4 zb)))
  (ze (seT 6 zB (zx zd))
  (ze (foR (jb (ixT v3 zb)) (gnM 7 zB)
   (zh (foR (jb (ixT v4 zb)) (gnM 8 zB)
    (zh (jg (apP (pv 6) (yo (zr ke (pv 7) (pv 8)) zd)))))))
  (ze (seT 9 zB (ixL (ixT v3 zb) (zr zS (zr yb v2 zb) (leN T.len (zl (ixT v3 zb) zd)))))
  (ze (seT 10 zB (ixL (ixT v4 zb) (zr zS (zr yb v2 zb) (leN T.len (zl (ixT v4 zb) zd)))))
  (ze (seT 11 zB (zr zp (zr zp (zr zp (zr zp zi (ixT v3 zb)) zi) (ixT v4 zb)) zi))
  (ze (seT 12 zB (zC (zo zi (zl (ixT v3 zb) (zl (ixT v4 zb) zd)))))
  (ze (zF (cmT zK (zr zS v2 zb) zb)
   (zh (zt (zC (zf (pv 12) (zf (pv 11) (zf v5 (zf (pv 6) zd)))))))
   zu)
  (ze (kD (i:=13) zB.nd rfl (QH rfl) (z1v qj Q8 Qj z0z v5 (zf (pv 9) zd)))
  (ze (kD (i:=14) zB.nd rfl (QH rfl) (z1v qj Q8 Qj z0z v5 (zf (pv 10) zd)))
  (ze (jH (j:=15) rfl zB.nd rfl (QV rfl) (CompSc.of (sx:=zm kZ) (NX:= ["_law_state","_law_table","_law_seed","_law_left","_law_right","_law_heads","_law_rows","_law_one","_law_two","_law_name","_law_other","_law_line","_law_question","_law_spot","_law_place","_law_same"]) (fr:= ["_law_spot","_law_place"]) (ix:= [13,14]) rfl rfl (by decide +kernel)) (jb (pv 6)) (λ_ _ _ _ _ _=>(z0F (cmT zK (yK (ki (K:=K) rfl) v0 v1 (λ_ _=>rfl)) (yK (ki (K:=K) rfl) v0 v2 (λ_ _=>rfl))))) (λ_ _ _ _ _ _=>v0))
  (ze (zF (z3M (cmT (z1L hu) (pv 15) (zx zd)) (cmT z6g (zr zS v2 zb) zb))
   (zh (zt (zC (zf (pv 12) (zf (pv 11) (zf v5 (zf (pv 6) zd)))))))
   zu)
  (ze (seT 6 zB (pv 15))
  (ze (kO (cmT zK (zr zS v2 zb) zb)
   (ze (seT 11 zB (zr zp (zr zp (zr zp (zr zp (zr zp (zr zp (zr zp (zr zp zi (pv 9)) zi) (pv 10)) zi) (ixT v3 zb)) zi) (ixT v4 zb)) zi))
   (zh (seT 12 zB (zC (zo zi (zf (pv 9) (zf (pv 10) (zl (ixT v3 zb) (zl (ixT v4 zb) zd)))))))))
   (zh (zF (cmT zK (zr zS v2 zb) zb)
    (ze (seT 11 zB (zr zp (zr zp (zr zp (zr zp (zr zp (zr zp zi (pv 10)) zi) (pv 9)) zi) (pv 11)) zi))
    (zh (seT 12 zB (zC (zo zi (zH (zC (zo zi (zf (pv 10) (zf (pv 9) zd)))) (zf (pv 12) zd)))))))
    (ze (seT 11 zB (zr zp (zr zp (zr zp (zr zp (zr zp (zr zp zi (pv 9)) zi) (pv 10)) zi) (pv 11)) zi))
    (zh (seT 12 zB (zC (zo zi (zH (zC (zo zi (zf (pv 9) (zf (pv 10) zd)))) (zf (pv 12) zd))))))))))
  (zh (zt (zC (zf (pv 12) (zf (pv 11) (zf v5 (zf (pv 6) zd)))))))))))))))))))))))))),?_⟩
 generalize hK0:K=K1
 revert K1
 refine jo (by walk_at "cl") ?_;refine !?_;refine !(zg t1 zD ⟨(zq rfl),λqp c6=> ?_⟩);refine zc (upd _ qp _) rfl c6 λH1 n1 x1=> ?_
 have dG:=n1 _ _ t1;refine !(zg dG zD (!(zg dG jc (!(zg dG ji ⟨(zq rfl),λad aj=> ?_⟩)))));refine zc (upd _ ad _) rfl aj λH2 n2 x2=> ?_
 have s2:=n1.trans n2;have aX:yJ th tr H2 (.ref ad) (.table n):=⟨ad,_,lY,iq,ts,rfl,x2,⟨qp,rfl,n2 _ _ x1⟩,s2 _ _ t3,t4.same s2,t5⟩;have fY:Rt th tr n (.table n) 0:=⟨mn,rfl,ww _,nl,ww _,z6w TT n mn,rfl⟩;refine⟨λσ H3=>∃(rv:V) (r:Qn),σ= [some v,some (.ref tp),some (.int a7),some v,some rv,none,none,none,none,none,none,none,none,none,none,none]/\zz H H3/\yJ th tr H3 rv r/\Rt th tr n r 1,?_,?_⟩
 ·refine !(ex2 rfl rfl ⟨(by show(0:Int) < 7;decide),rfl,!?_⟩);refine yV (λhb=> ?_) (λhb=> ?_)
  ·refine !(!(ex2 rfl rfl ⟨⟨by decide,by decide⟩,th,tr,.table n,_,_,rfl,TT,aX,mn,by have:(zA (.table n)).length<=10:=nl;lia,lX,λv' a H' s' aw ma=> ?_⟩));refine⟨v',!⟨s2.trans s',aw,⟨ma,mn⟩,rfl,by show(z06 _ _).length<=_;rw [z5d];exact ww _,?_,by show 1 + 1<=1 + 2 * 1;decide,z6w TT n mn,rfl⟩⟩;have la:=z54 TT n mn a ma;simp only [zA]
   (walk_at "sl")
  ·exact⟨_,!⟨s2,aX,fY.ok,fY.hd,fY.ln,by have:=fY.li;lia,by have:=fY.dp;lia,fY.sub,fY.lv⟩⟩
 rintro σ H3 ⟨rv,r,rfl,s3,aD,l⟩;refine⟨λσ H4=>∃(rv:V) (r:Qn),σ= [some v,some (.ref tp),some (.int a7),some v,some rv,none,none,none,none,none,none,none,none,none,none,none]/\zz H H4/\yJ th tr H4 rv r/\Rt th tr n r 2,?_,?_⟩
 ·refine !(ex2 rfl rfl ⟨(by show(0:Int) < 7;decide),rfl,!?_⟩);refine yV (λhb=> ?_) (λhb=> ?_)
  ·refine !⟨th,tr,r,_,_,rfl,aD,by have:=l.li;lia,λv' q' H' s' aw cV=> ?_⟩;refine⟨v',q',rfl,s3.trans s',aw,?_⟩;obtain⟨m,mm,cV⟩:=cV;have lm:=(z03 m mm).1;have Cy:=l.li;have Cz:=l.dp;rcases cV with rfl | ⟨m',eJ,rfl⟩
   ·refine⟨⟨mm,l.ok⟩,l.hd,?_,?_,?_,l.sub,l.lv⟩
    ·show((rowsOf th tr r).take _).length<=_
     rw [wS];have:=l.ln
     lia
    ·simp only [zA]
     (walk_at "sl")
    ·show depth r + 1<=_
     lia
   ·have CA:=(z03 m' eJ).1;refine⟨⟨eJ,mm,l.ok⟩,l.hd,?_,?_,?_,l.sub,l.lv⟩
    ·show(((rowsOf th tr r).take _).take _).length<=_
     rw [wS,wS];have:=l.ln
     lia
    ·simp only [zA]
     (walk_at "sl")
    ·show depth r + 1 + 1<=_
     lia
  ·exact⟨_,!⟨s3,aD,l.ok,l.hd,l.ln,by have:=l.li;lia,by have:=l.dp;lia,l.sub,l.lv⟩⟩
 clear aD l;rintro σ H4 ⟨rv,r,rfl,s4,fk,u⟩;have CB:=u.li;have CD:=u.dp;have sg:=u.ln;have si:∀x∈za th q,x∉za th r:=by rw [u.hd];exact dj
 have iA:=aH.same s4;have CF:(zA r).length<=300:=by lia
 refine⟨λσ H5=>∃(lv wv:V) (c d:Qn),σ= [some v,some (.ref tp),some (.int a7),some lv,some wv,none,none,none,none,none,none,none,none,none,none,none]/\H5=H4/\yJ th tr H4 lv c/\yJ th tr H4 wv d/\okQ th c/\okQ th d/\(∀x∈za th c,x∉za th d)/\(zA c).length + (zA d).length<=(zA q).length + 300/\
  (rowsOf th tr c).length * (rowsOf th tr d).length<=(rowsOf th tr q).length * (tr n).length/\(rowsOf th tr c).length<=1000/\(rowsOf th tr d).length<=1000/\(za th c).length<=1000/\(za th d).length<=1000/\(za th c ++ za th d=za th q ++ th n\/za th c ++ za th d=th n ++ za th q)/\max (depth c) (depth d)<=max (depth q) 5/\(z25 th tr q->z25 th tr c/\z25 th tr d)/\zv c + zv d=zv q + 1,?_,?_⟩
 ·refine !(ex2 rfl rfl ⟨⟨by decide,by decide⟩,ex2 rfl rfl ⟨(by show(0:Int) < 2;decide),rfl,!?_⟩⟩);refine yV (λhb=> ?_) (λhb=> ?_)
  ·refine !?_;refine !?_;refine⟨_,_,r,q,rfl,rfl,fk,iA,u.ok,hok,λx hx hy=>si x hy hx,by lia,?_,by lia,bj,by rw [u.hd];exact sf,fW,.inr (by rw [u.hd]),by lia,λh=>⟨u.sub,h⟩,by rw [u.lv,Nat.add_comm]⟩;rw [Nat.mul_comm];exact Qv _ sg
  ·exact⟨_,_,q,r,rfl,rfl,iA,fk,hok,u.ok,si,by lia,Qv _ sg,bj,by lia,fW,by rw [u.hd];exact sf,.inl (by rw [u.hd]),by lia,λh=>⟨h,u.sub⟩,by rw [u.lv]⟩
 rintro σ H5 ⟨lv,wv,c,d,rfl,rfl,vG,str,iB,fu,sj,CG,mf,sq,su,fz,aF,gF,CI,gK,oH⟩;have sw:=jA TT iB;have sy:=jA TT fu;have vH:=zZ TT iB;have vI:=zZ TT fu;have vJ:=jJ TT iB;have vK:=jJ TT fu;obtain⟨p1,gI,cG,gG,t,rfl,a1,a2,a3,a4,a5⟩:=vG;obtain⟨p2,bP,bD,fV,B,rfl,b1,b2,b3,b4,b5⟩:=str;have l1:t.length<=1000:=by rw [<-a5,w9]at sq;exact sq
 have l2:B.length<=1000:=by rw [<-b5,w9]at su;exact su
 have iC:(refs t).length=t.length:=w9 _;have fZ:(refs B).length=B.length:=w9 _;have w1:∀r∈t,r.2.length=(za th c).length:=λr m=>vJ r.2 (by rw [<-a5];exact qA.mpr ⟨_,m,rfl⟩)
 have w2:∀r∈B,r.2.length=(za th d).length:=λr m=>vK r.2 (by rw [<-b5];exact qA.mpr ⟨_,m,rfl⟩)
 refine !(zg a1 ji (!(zg b1 ji ⟨_,_,ex2 rfl rfl ⟨a3,b3,ja (by rw [w9,w9];lia),λhp cg=> ?_⟩⟩)));rw [<-wC];refine zc (upd _ hp _) rfl cg λH6 Z x6=> ?_
 refine⟨(zq rfl),λG c8=> ?_⟩;refine zc (upd _ G _) rfl c8 λH7 n7 x7=> ?_
 have sA:=Z.trans n7;have f5:H5 G=none:=Z.free c8;refine !(zg (sA _ _ a1) z0O ⟨gG,rfl,⟨_,SqL.of (sA _ _ a4.1)⟩,km (K:=K) (a:=gG) (xs:=refs t) (λi σ H'=>∃(ds:List (Addr×List Int)) (o7 U:Option V),σ= [some v,some (.ref tp),some (.int a7),some (.ref p1),some (.ref p2),some (.ref hp),some (.ref G),o7,U,none,none,none,none,none,none,none]/\zz H6 H'/\RowsAt H' G ds/\
  ds.map (·.2)=pairs ((t.map (·.2)).take i) (B.map (·.2))/\ds.length<=i * 1000) ⟨[],none,none,rfl,n7,kC x7,rfl,ww _⟩ (λi σ H' _ ⟨_,_,_,_,sm,_⟩=>SqL.of (sm _ _ (Z _ _ a4.1))) ?_ ?_⟩)
 ·rintro i x σ H8 hi ⟨ds,o7,U,rfl,s8,hd,S,ld⟩;have X:i < t.length:=by
   have:=(we.mp hi).1
   rwa [iC]at this
  rw [z09 X]at hi;cases hi;have L:=Z.trans s8;refine !(zg (L _ _ b1) z0O ⟨fV,rfl,⟨_,SqL.of (L _ _ b4.1)⟩,km (K:=K) (a:=fV) (xs:=refs B) (λj σ H'=>∃(ds:List (Addr×List Int)) (U:Option V),σ= [some v,some (.ref tp),some (.int a7),some (.ref p1),some (.ref p2),some (.ref hp),some (.ref G),some (.ref t[i].1),U,none,none,none,none,none,none,none]/\zz H6 H'/\RowsAt H' G ds/\
   ds.map (·.2)=pairs ((t.map (·.2)).take i) (B.map (·.2)) ++ ((B.map (·.2)).take j).map (λo=>t[i].2 ++ o)/\ds.length<=i * 1000 + j) ⟨ds,U,rfl,s8,hd,by rw [S];simp,by lia⟩ (λj σ H' _ ⟨_,_,_,sm,_⟩=>SqL.of (sm _ _ (Z _ _ b4.1))) ?_ ?_⟩)
  ·rintro j y σ H9 hj ⟨ds,U,rfl,s9,hd,S,ld⟩;have mh:j < B.length:=by
    have:=(we.mp hj).1
    rwa [fZ]at this
   rw [z09 mh]at hj;cases hj;have g0:=Z.trans s9;have hR:=g0 _ _ (a4.2 _ (wG X)).2;have hO:=g0 _ _ (b4.2 _ (wG mh)).2;have sB:=w1 _ (wG X);have cN:=w2 _ (wG mh);refine !⟨.inl ⟨rfl,_,SqL.of hd.1⟩,!(!⟨_,_,ex2 rfl rfl ⟨hR,hO,ja (by rw [w9,w9];lia),λq1 mi=> ?_⟩⟩)⟩;have nn:=zJ mi (.lst (t[i].2.map V.int ++ B[j].2.map V.int));have gL:=hd.same nn;refine⟨G,ex2 rfl rfl ⟨gL.1,zG (by rw [w9];lia),?_⟩⟩;have nq:q1≠G:=(zy hd.1 mi).symm;refine⟨ds ++ [(q1,t[i].2 ++ B[j].2)],!⟨(s9.trans nn).put c8,gL.push nq (by rw [zj,wC]),?_,by rw [wb,wD];lia⟩⟩;rw [wC,S,q9,z3Y mh,wC,Q9]
   rfl
  ·rintro σ H9 ⟨ds,U,rfl,s9,hd,S,ld⟩;refine⟨ds,_,!⟨s9,hd,?_,by rw [fZ]at ld;lia⟩⟩;rw [S,z7y (z3Y X),fZ,show(B.map (·.2)).take B.length=B.map (·.2)from Qo (by rw [w9];exact ww _)]
 rintro σ H8 ⟨ds,o7,U,rfl,s8,hd,S,ld⟩;rw [iC,show(t.map (·.2)).take t.length=t.map (·.2)from Qo (by rw [w9];exact ww _),a5,b5]at S;have L:=Z.trans s8;have CJ:=s4.trans L;have x8:=s8 _ _ x6;have a8:=L _ _ a1;have b8:=L _ _ b1;have iD:(0:Int) < ((((za th c).map V.str).length:Nat):Int):=by
  have:=QN.mpr sw.1;rw [w9];lia
 have iE:(0:Int) < ((((za th d).map V.str).length:Nat):Int):=by
  have:=QN.mpr sy.1;rw [w9];lia
 obtain⟨a,ma,ea⟩:=z1s (i:=a7 / 8) sw.1;obtain⟨b,mb,eb⟩:=z1s (i:=a7 / 2) sy.1;have la:=vH a ma;have lb:=vI b mb;refine !(zg a8 ji (!(ex2 rfl rfl ⟨⟨by decide,by decide⟩,!(zg a8 ji ⟨cG,!⟨.inl (SqL.of (L _ _ a3)),ex2 rfl rfl ⟨iD,zw (L _ _ a3) ea ?_⟩⟩⟩)⟩)));refine !(zg b8 ji (!(ex2 rfl rfl ⟨⟨by decide,by decide⟩,!(zg b8 ji ⟨bD,!⟨.inl (SqL.of (L _ _ b3)),ex2 rfl rfl ⟨iE,zw (L _ _ b3) eb ?_⟩⟩⟩)⟩)));refine !(zg a8 jc (ex2 rfl rfl ⟨by(walk_at "sl"),ex2 rfl rfl ⟨by(walk_at "sl"),!(zg b8 jc (ex2 rfl rfl ⟨by(walk_at "sl"),ex2 rfl rfl ⟨by(walk_at "sl"),?_⟩⟩))⟩⟩));refine !(zg a8 zD (!(zg b8 zD ⟨(zq rfl),λpp aq=> ?_⟩)));refine zc (upd _ pp _) rfl aq λH9 n9 x9=> ?_
 have g0:=L.trans n9;have oI:QAt H9 (.pair c d) (.ref pp):=⟨pp,gI,bP,rfl,x9,a2.same g0,b2.same g0⟩;have iF:=hd.same n9;have vL:(zA (.pair c d)).length<=(zA q).length + 310:=by simp only [zA];(walk_at "sl")
 have sC:ds.map (·.2)=rowsOf th tr (.pair c d):=S;have iG:(rowsOf th tr (.pair c d)).length<=(rowsOf th tr q).length * (tr n).length:=by show(pairs _ _).length<=_;rw [pairs_len];exact mf
 have oJ:okQ th (.pair c d):=⟨sj,iB,fu⟩;have CK:depth (.pair c d)<=max (depth q) 5 + 1:=by show max _ _ + 1<=_;lia
 have vM:Un2 th tr q n (.pair c d):=⟨oJ,gF,iG,by lia,by lia,λ_=>nofun,λh hp=>⟨(gK h).1,(gK h).2,wV mf hp⟩,oH⟩;have vN:∀r∈ds,r.2.length=(za th c ++ za th d).length:=λr m=>jJ TT oJ r.2 (by rw [<-sC];exact qA.mpr ⟨_,m,rfl⟩)
 have CM:ds.length<=1000000:=by lia
 have sD:(refs ds).length=ds.length:=w9 _;have sE:a∈za th c ++ za th d:=qe _ ma;have sF:b∈za th c ++ za th d:=wF _ mb;have sG:=s4.trans g0;have asPair:∀(σ:St) {N:Hp},zz H9 N->∀sp,N sp=none->Q (.ref sp) (upd N sp (.tup [.ref pp,.str (zA (.pair c d)),.ref hp,.ref G])):=λσ N m9 sp ao=>by
  have bJ:=zJ ao (.tup [.ref pp,.str (zA (.pair c d)),.ref hp,.ref G]);have D:=m9.trans bJ;exact fin _ (.pair c d) _ (sG.trans D) ⟨sp,_,hp,G,ds,rfl,zj,oI.same D,D _ _ (n9 _ _ x8),iF.same D,sC⟩ vM
 refine !(ex2 rfl rfl ⟨(by show(0:Int) < 4;decide),rfl,!?_⟩);refine yV (λhb=> ?_) (λhb=> ?_)
 ·exact !(!(!(!⟨(zq rfl),λsp ao=>asPair [] (zz.refl _) sp ao⟩)))
 have ia:=yT sE;have ib:=yT sF;have iH:=n9 _ _ x8;refine !⟨.inl ⟨rfl,_,SqL.of iH⟩,!⟨hp,_,_,(za th c ++ za th d).idxOf a,rfl,rfl,SqL.of iH,rfl,jd _,ia.1,ia.2,?_⟩⟩;refine !⟨.inl ⟨rfl,_,SqL.of iH⟩,!⟨hp,_,_,(za th c ++ za th d).idxOf b,rfl,rfl,SqL.of iH,rfl,jd _,ib.1,ib.2,?_⟩⟩;refine !⟨G,rfl,⟨_,SqL.of iF.1⟩,?_⟩;refine kF (xs:=refs ds) (λi ys H'=>H'=H9/\ys=refs ((ds.take i).filter λr=>decide (r.2.getD ((za th c ++ za th d).idxOf a) 0=r.2.getD ((za th c ++ za th d).idxOf b) 0))) ⟨rfl,rfl⟩ ?_ ?_ ?_
 ·rintro i ys H' hi ⟨rfl,rfl⟩;refine⟨SqL.of iF.1,zG ?_⟩;have:=qz (λr:Addr×List Int=>decide (r.2.getD ((za th c ++ za th d).idxOf a) 0=r.2.getD ((za th c ++ za th d).idxOf b) 0)) (ds.take i);rw [w9];rw [wS]at this
  lia
 ·rintro i x ys H' hi ⟨rfl,rfl⟩;have X:i < ds.length:=by
   have:=(we.mp hi).1
   rwa [sD]at this
  rw [z09 X]at hi;cases hi;have bZ:=(iF.2 _ (wG X)).2;have wl:=vN _ (wG X);have ft:=z1R (λr:Addr×List Int=>decide (r.2.getD ((za th c ++ za th d).idxOf a) 0=r.2.getD ((za th c ++ za th d).idxOf b) 0)) ds (wa X);refine !(!(zw bZ (zX (int_at (z7Z sE wl))) (!(!(zw bZ (zX (int_at (z7Z sF wl))) ⟨rfl,!?_⟩)))));rw [z40];refine yV (λhc=> ?_) (λhc=> ?_)
  ·refine !⟨rfl,?_⟩;rw [ft,wU hc];simp [refs]
  ·refine⟨rfl,?_⟩;rw [ft,wM hc,Qb]
 rintro ys H' ⟨rfl,rfl⟩ np aA;rw [sD,qB];refine zc (upd _ np _) rfl aA λN bw ae=> ?_
 have rc:=kc aA bw ae λr m=>(iF.2 r (Qp.mp m).1).2
 have fe:(ds.filter λr=>decide (r.2.getD ((za th c ++ za th d).idxOf a) 0=r.2.getD ((za th c ++ za th d).idxOf b) 0)).map (·.2)=rowsOf th tr (.join a b c d):=by
  show _=List.filter _ (pairs _ _)
  rw [<-S,w0h]
  rfl
 have sI:(rowsOf th tr (.join a b c d)).length<=(rowsOf th tr q).length * (tr n).length:=wV (qz _ _) iG;generalize (ds.filter λr=>decide (r.2.getD ((za th c ++ za th d).idxOf a) 0=r.2.getD ((za th c ++ za th d).idxOf b) 0))=fs at ae rc fe;refine !⟨(zq rfl),λep ap=> ?_⟩;refine zc (upd _ ep _) rfl ap λam bJ ar=> ?_
 refine⟨np,ep,!⟨rfl,SqL.of (bJ _ _ ae),SqL.of ar,!⟨_,(!(ex2 rfl rfl ⟨(by show(0:Int) < 5;decide),ex2 rfl rfl (!⟨rfl,rfl⟩)⟩)),?_⟩⟩⟩;have D:=bw.trans bJ;refine yV (λeI=> ?_) (λeI=> ?_)
 ·exact !(!(!(!⟨(zq rfl),λsp ao=>asPair [] D sp ao⟩)))
 refine !?_;have sJ:=D _ _ (n9 _ _ a8);have sK:=D _ _ (n9 _ _ b8);have oK:=g0.trans D;refine⟨λσ C=>∃(qv:V) (q':Qn),σ= [some v,some (.ref tp),some (.int a7),some (.ref p1),some (.ref p2),some (.ref hp),some (.ref np),o7,U,some (.str a),some (.str b),some (.str (zA q')),some qv,some (.int (((za th c ++ za th d).idxOf a:Nat):Int)),some (.int (((za th c ++ za th d).idxOf b:Nat):Int)),some (.ref np)]/\zz am C/\QAt C q' qv/\za th q'=za th c ++ za th d/\rowsOf th tr q'=rowsOf th tr (.join a b c d)/\Un2 th tr q n q',?_,?_⟩
 ·refine !(ex2 rfl rfl ⟨(by show(0:Int) < 4;decide),rfl,!?_⟩);refine yV (λhc=> ?_) (λhc=> ?_)
  ·refine !(ex2 rfl rfl ⟨by(walk_at "sl"),ex2 rfl rfl ⟨by(walk_at "sl"),!(ex2 rfl rfl ⟨by(walk_at "sl"),ex2 rfl rfl ⟨by(walk_at "sl"),!(zg sJ jc (ex2 rfl rfl ⟨by(walk_at "sl"),ex2 rfl rfl ⟨by(walk_at "sl"),!(zg sK jc (ex2 rfl rfl ⟨by(walk_at "sl"),ex2 rfl rfl ⟨by(walk_at "sl"),?_⟩⟩))⟩⟩))⟩⟩)⟩⟩);refine !(!(!(zg sJ zD (!(zg sK zD ⟨(zq rfl),λY I=> ?_⟩)))));refine zc (upd _ Y _) rfl I λC n12 J=> ?_
   have iI:=oK.trans n12;refine⟨_,.join a b c d,rfl,n12,⟨Y,gI,bP,rfl,J,a2.same iI,b2.same iI⟩,rfl,rfl,⟨ma,mb,sj,iB,fu⟩,gF,sI,?_,?_,λ_=>nofun,λh hp=>⟨(gK h).1,(gK h).2,wV mf hp⟩,oH⟩
   ·simp only [zA];(walk_at "sl")
   ·show max _ _ + 1<=_;lia
  ·refine !(ex2 rfl rfl ⟨(by show(0:Int) < 4;decide),rfl,!?_⟩);have oM:∀{x y:Str} (R:(x=b/\y=a)\/(x=a/\y=b)),rowsOf th tr (.pick (.same (.nm x) (.nm y)) (.pair c d))=rowsOf th tr (.join a b c d):=λ{x y} R=>by
    show List.filter _ (pairs _ _)=List.filter _ (pairs _ _)
    refine w0C λz _=> ?_
    rcases R with⟨rfl,rfl⟩ | ⟨rfl,rfl⟩
    ·show decide (z.getD ((za th c ++ za th d).idxOf _) 0=z.getD ((za th c ++ za th d).idxOf _) 0)=_
     exact w15.mpr eq_comm
    ·rfl
   have mk:∀{x y:Str} (R:(x=b/\y=a)\/(x=a/\y=b)),Un2 th tr q n (.pick (.same (.nm x) (.nm y)) (.pair c d)):=λ{x y} R=>by
    have mx:x∈za th c ++ za th d:=by rcases R with⟨rfl,rfl⟩ | ⟨rfl,rfl⟩ <;> assumption
    have my:y∈za th c ++ za th d:=by rcases R with⟨rfl,rfl⟩ | ⟨rfl,rfl⟩ <;> assumption
    have lx:x.length<=10:=by rcases R with⟨rfl,rfl⟩ | ⟨rfl,rfl⟩ <;> assumption
    have ly:y.length<=10:=by rcases R with⟨rfl,rfl⟩ | ⟨rfl,rfl⟩ <;> assumption
    refine⟨⟨⟨mx,my⟩,by simp [Cond.size],oJ⟩,gF,by rw [oM R];exact sI,?_,?_,λ_=>nofun,λh hp=>⟨(gK h).1,(gK h).2,wV mf hp⟩,oH⟩
    ·simp only [zA,yv,ends,Side.txt];simp only [zA]at vL;(walk_at "sl")
    ·show depth (.pair c d) + 1<=_;lia
   have line:∀x y:Str,("(pick (same " ++ x ++ " " ++ y ++ ") " ++ zA (.pair c d) ++ ")":Str)=zA (.pick (.same (.nm x) (.nm y)) (.pair c d)):=λx y=>by
    have e:zA (.pick (.same (.nm x) (.nm y)) (.pair c d))=("(pick ":Str) ++ ("(" ++ "same" ++ " " ++ (x ++ " " ++ y) ++ ")") ++ " " ++ zA (.pair c d) ++ ")":=rfl;rw [e];have e1:("(pick (same ":Str)=("(pick ":Str) ++ ("(" ++ "same" ++ " "):=by decide +kernel
    have e2:(") ":Str)=(")":Str) ++ " ":=by decide +kernel
    rw [e1,e2];simp only [Str.append_assoc]
   have vO:(zA (.pair c d)).length<=4000310:=by lia
   refine yV (λdR=> ?_) (λdR=> ?_)
   ·refine !(ex2 rfl rfl ⟨by(walk_at "sl"),ex2 rfl rfl ⟨by(walk_at "sl"),!(ex2 rfl rfl ⟨by(walk_at "sl"),ex2 rfl rfl ⟨by(walk_at "sl"),!⟨_,zA (.pair c d),rfl,rfl,by(walk_at "sl"),ex2 rfl rfl ⟨by(walk_at "sl"),?_⟩⟩⟩⟩)⟩⟩);refine !(!⟨(zq rfl),λcp aI=> ?_⟩);refine zc (upd _ cp _) rfl aI λC n12 J=> ?_
    refine !⟨(zq rfl),λY I=> ?_⟩;refine zc (upd _ Y _) rfl I λag M O=> ?_
    refine⟨_,.pick (.same (.nm b) (.nm a)) (.pair c d),by rw [<-line];rfl,n12.trans M,⟨Y,_,!⟨O,⟨cp,rfl,M _ _ J⟩,oI.same (D.trans (n12.trans M))⟩⟩,rfl,oM (.inl ⟨rfl,rfl⟩),mk (.inl ⟨rfl,rfl⟩)⟩
   ·refine !(ex2 rfl rfl ⟨by(walk_at "sl"),ex2 rfl rfl ⟨by(walk_at "sl"),!(ex2 rfl rfl ⟨by(walk_at "sl"),ex2 rfl rfl ⟨by(walk_at "sl"),!⟨_,zA (.pair c d),rfl,rfl,by(walk_at "sl"),ex2 rfl rfl ⟨by(walk_at "sl"),?_⟩⟩⟩⟩)⟩⟩);refine !(!⟨(zq rfl),λcp aI=> ?_⟩);refine zc (upd _ cp _) rfl aI λC n12 J=> ?_
    refine !⟨(zq rfl),λY I=> ?_⟩;refine zc (upd _ Y _) rfl I λag M O=> ?_
    refine⟨_,.pick (.same (.nm a) (.nm b)) (.pair c d),by rw [<-line];rfl,n12.trans M,⟨Y,_,!⟨O,⟨cp,rfl,M _ _ J⟩,oI.same (D.trans (n12.trans M))⟩⟩,rfl,oM (.inr ⟨rfl,rfl⟩),mk (.inr ⟨rfl,rfl⟩)⟩
 rintro σ C ⟨qv,q',rfl,sL,oN,eh,er,oO⟩;refine !(!(!(!⟨(zq rfl),λsp ao=> ?_⟩)));refine zc (upd _ sp _) rfl ao λag M O=> ?_
 have iJ:=D.trans (sL.trans M);refine fin _ q' _ (sG.trans iJ) ⟨sp,qv,hp,np,fs,rfl,O,oN.same M,by rw [eh];exact iJ _ _ iH,(rc.same bJ).same (sL.trans M),by rw [fe,er]⟩ oO
noncomputable def z1G(hs:List Str)(n:Str):List Str:=if n="tuvtuvtuvw" then z2o else if n="tuvtuvtuvx" then(["e"]:List Str)else hs
noncomputable def z37(r0 r1 r2 r3:List (List Int))(n:Str):List (List Int):=if n="t" then r0 else if n="tuvtuvtuvw" then r1 else if n="tuvtuvtuvx" then r2 else r3
theorem tabs_ok{m:Nat}{r0 r1 r2 r3:List (List Int)}(a:2<=m)(d:m<=12)(l0:∀r∈r0,r.length=(j9.take m).length)(l1:∀r∈r1,r.length=2)(l2:∀r∈r2,r.length=1)(e:∀r∈r3,r.length=(j9.take m).length)(f:r0.length<=60)(b:r1.length<=10)(h:r2.length<=10)(c:r3.length=3):
  TabOk (z1G (j9.take m)) (z37 r0 r1 r2 r3) where
 t:=⟨m,a,d,by unfold z1G;rw [wM (by decide +kernel),wM (by decide +kernel)]⟩
 w:=by unfold z1G;rw [wU rfl]
 x:=by unfold z1G;rw [wM (by decide +kernel),wU rfl]
 z:=by unfold z1G;rw [wM (by decide +kernel),wM (by decide +kernel),wM (by decide +kernel),wM (by decide +kernel)]
 rl:=λn hn=>by
  simp only [tabs,wE,qf,Qu]at hn;rcases hn with rfl | rfl | rfl | rfl
  ·unfold z1G z37;rw [wU rfl,wM (by decide +kernel),wM (by decide +kernel)];exact l0
  ·unfold z1G z37;rw [wM (by decide +kernel),wU rfl,wU rfl];exact l1
  ·unfold z1G z37;rw [wM (by decide +kernel),wM (by decide +kernel),wU rfl,wM (by decide +kernel),wU rfl];exact l2
  ·unfold z1G z37;rw [wM (by decide +kernel),wM (by decide +kernel),wM (by decide +kernel),wM (by decide +kernel),wM (by decide +kernel)];exact e
 ct:=by unfold z37;rw [wU rfl];exact f
 cw:=by unfold z37;rw [wM (by decide +kernel),wU rfl];exact b
 cx:=by unfold z37;rw [wM (by decide +kernel),wM (by decide +kernel),wU rfl];exact h
 cz:=by unfold z37;rw [wM (by decide +kernel),wM (by decide +kernel),wM (by decide +kernel)];exact c
def jE(th:Str->List Str)(tr:Str->List (List Int))(H:Hp)(p:Addr):Prop:=∃v0 v1 v2 v3,H p=some (.lst [v0,v1,v2,v3])/\TabAt th tr H v0 "t"/\TabAt th tr H v1 "tuvtuvtuvw"/\TabAt th tr H v2 "tuvtuvtuvx"/\TabAt th tr H v3 "tuvz"
theorem jE.same{p:Addr}(h:jE th tr H p)(e:zz H H'):jE th tr H' p:=by
 obtain⟨v0,v1,v2,v3,h0,a,b,c,d⟩:=h;exact⟨v0,v1,v2,v3,e _ _ h0,a.same e,b.same e,c.same e,d.same e⟩
inductive spStocked (K:W.Frag) (vs:List V) (H:Hp) (Q:VK) (E:XK):Prop
 | mk:∀cp (ns:List Int) more,vs= [.ref cp,.int more]->SqL K H cp (ns.map V.int)->ns.length<=18->0<=more->more<=48->(∀(p:Addr) (th:Str->List Str) (tr:Str->List (List Int)) (H':Hp),zz H H'->TabOk th tr->jE th tr H' p->Q (.ref p) H')->spStocked K vs H Q E
def z7r{t:TT}{σ:St}{Q:Bool->Hp->Prop}(els:Q false H)(h:Q false H->t σ H Q):t σ H Q:=h els
noncomputable def twM(t:Nat):Nat:=if t=0 then 1 else if t=1 then 2 else 4
structure Gr(th:Str->List Str)(tr:Str->List (List Int))(i used twice:Nat)(q:Qn):Prop where
 ok:okQ th q
 rows:(rowsOf th tr q).length<=60
 line:(zA q).length<=2400 * (i + 1) * twM twice
 heads:∀x∈za th q,x∈z08 i used
 dp:depth q<=5 + 2 * i
 sub:z25 th tr q
 lv:zv q<=used * twM twice
 top:∀n,q= .table n->n="t":=by intro n e;cases e
theorem z3p{l:List α}{x:α}(h:x∈l.take i)(a:i<=j):x∈l.take j:=by
 have:l.take i=(l.take j).take i:=by rw [List.take_take,Nat.min_eq_left a]
 rw [this]at h;exact QC h
theorem ju{x:Str}{u v:Nat}(h:x∈z08 i u)(a:i<=j)(b:u<=v):x∈z08 j v:=by
 unfold z08 at h ⊢;simp only [wx,qA]at h ⊢;rcases h with(((h | h) | h) | ⟨s,h,e⟩) | ⟨s,h,e⟩
 ·exact .inl (.inl (.inl (.inl h)))
 ·refine .inl (.inl (.inl (.inr ?_)));split at h
  ·rw [wU (by lia)];exact h
  ·cases h
 ·refine .inl (.inl (.inr ?_));split at h
  ·rw [wU (by lia)];exact h
  ·cases h
 ·exact .inl (.inr ⟨s,z3p h a,e⟩)
 ·exact .inr ⟨s,z3p h a,e⟩
theorem zcA:∀x∈z2o,x∉z08 26 1:=by decide +kernel
theorem zcN:∀x∈(["e"]:List Str),x∉z08 26 2:=by decide +kernel
theorem z9s:∀i:Fin 26,(("n":Str) ++ signs.getD i.1 "":Str)∉z08 i.1 3/\(("s":Str) ++ signs.getD i.1 "":Str)∉z08 i.1 3:=by decide +kernel
theorem z4k:(z08 26 3).length<=100:=by decide +kernel
theorem wIn:∀x∈z2o,x∈z08 0 2:=by decide +kernel
theorem eIn:∀x∈(["e"]:List Str),x∈z08 0 3:=by decide +kernel
theorem lIn:∀x∈j9,x∈z08 0 1:=by decide +kernel
noncomputable def z9N:Str:="abcdefghijklmnopqrstuvwxyz"
theorem zce:∀i:Fin 26,(z9N.cps.toList[i.1]?).map (λc=>(⟨#[c]⟩:Str))=some (signs.getD i.1 ""):=by decide +kernel
theorem zb5:z9N.length<=sizeLine:=ja (by decide +kernel)
theorem zbA(h:i < 26):∃c,atI z9N.cps.toList (0 + (i:Int))=some c/\(⟨#[c]⟩:Str)=signs.getD i "":=by
 have:=zce ⟨i,h⟩;cases e:z9N.cps.toList[i]? with
 | none=>rw [e]at this;cases this
 | some c=>
  rw [e]at this;refine⟨c,?_,Option.some.inj this⟩;rw [w0D];exact zX e
theorem z3c(h:i < 26):signs.getD i ""∈signs:=by
 rw [wo,wa (by show i < 26;exact h)];exact wG _
theorem z5z(h:i < 26):signs.getD i ""∈signs.take (i + 1):=by
 have hl:i < signs.length:=h;rw [wo,wa hl,q9,wa hl];exact wF _ (wu.mpr rfl)
section
variable{used twice:Nat}
theorem yR(t:Nat):1<=twM t/\twM t<=4:=by unfold twM;split <;> (try split) <;> lia
theorem kK{a b m:Nat}(h:a<=2400 * (i + 1) * m)(hm:1<=m)(c:b<=a + 2400):b<=2400 * (i + 1 + 1) * m:=by
 have:2400 * (i + 1 + 1) * m=2400 * (i + 1) * m + 2400 * m:=by rw [Qk 2400 (i + 1) 1,QY,w1A]
 lia
theorem Gr.big(g:Gr th tr i used twice q)(hi:i<=24):(zA q).length<=240000:=by
 have h:=g.line;have m:=(yR twice).2;have:2400 * (i + 1) * twM twice<=2400 * 25 * 4:=w0K (Qv _ (by lia)) m
 lia
def Gr.wide(T:TabOk th tr)(g:Gr th tr i used twice q)(hi:i<=26)(a:used<=3):(za th q).length<=100:=
 wV (yY (jA T g.ok).2 λx b=>ju (g.heads x b) hi a) z4k
theorem Gr.pick(T:TabOk th tr)(g:Gr th tr i used twice q)(a:jy (za th q) c)(sz:c.size<=6):Gr th tr (i + 1) used twice (.pick c q) where
 ok:=⟨a,sz,g.ok⟩
 rows:=wV (qz _ _) g.rows
 line:=kK g.line (yR _).1 (by have:=z3R (zZ T g.ok) a sz;lia)
 heads:=λx b=>ju (g.heads x b) (by lia) (ww _)
 dp:=by have:=g.dp;show depth q + 1<=_;lia
 sub:=g.sub
 lv:=g.lv
theorem Gr.cols(T:TabOk th tr)(g:Gr th tr i used twice q)(hi:i<=24)(a:used<=3)(ne:ns≠ [])(nd:ns.Nodup)(sub:∀n∈ns,n∈za th q):Gr th tr (i + 1) used twice (.cols ns q) where
 ok:=⟨ne,nd,sub,g.ok⟩
 rows:=by show(List.map _ _).length<=_;rw [w9];exact g.rows
 line:=kK g.line (yR _).1 (by
  have c:=z4E λn hn=>zZ T g.ok n (sub n hn)
  have wl:=g.wide T (by lia) a;have d:=yY nd sub;simp only [zA]
  (walk_at "sl"))
 heads:=λx b=>ju (g.heads x (sub x b)) (by lia) (ww _)
 dp:=by have:=g.dp;show depth q + 1<=_;lia
 sub:=g.sub
 lv:=g.lv
theorem Gr.sort(T:TabOk th tr)(g:Gr th tr i used twice q)(m:n∈za th q):Gr th tr (i + 1) used twice (.sort n q) where
 ok:=⟨m,g.ok⟩
 rows:=by show(z06 _ _).length<=_;rw [z5d];exact g.rows
 line:=kK g.line (yR _).1 (by
  have:=zZ T g.ok n m;simp only [zA]
  (walk_at "sl"))
 heads:=λx a=>ju (g.heads x a) (by lia) (ww _)
 dp:=by have:=g.dp;show depth q + 1<=_;lia
 sub:=g.sub
 lv:=g.lv
theorem Gr.first(g:Gr th tr i used twice q){n:Int}(m:n∈z0f):Gr th tr (i + 1) used twice (.first n q) where
 ok:=⟨m,g.ok⟩
 rows:=by show(List.take _ _).length<=_;rw [wS];have:=g.rows;lia
 line:=kK g.line (yR _).1 (by
  have:=(z03 n m).1;simp only [zA]
  (walk_at "sl"))
 heads:=λx a=>ju (g.heads x a) (by lia) (ww _)
 dp:=by have:=g.dp;show depth q + 1<=_;lia
 sub:=g.sub
 lv:=g.lv
theorem Gr.firsts(g:Gr th tr i used twice q){n a:Int}(m:n∈z0f)(b:a∈z0f):Gr th tr (i + 1) used twice (.first a (.first n q)) where
 ok:=⟨b,m,g.ok⟩
 rows:=by show(List.take _ (List.take _ _)).length<=_;rw [wS,wS];have:=g.rows;lia
 line:=kK g.line (yR _).1 (by
  have:=(z03 n m).1;have:=(z03 a b).1;simp only [zA]
  (walk_at "sl"))
 heads:=λx c=>ju (g.heads x c) (by lia) (ww _)
 dp:=by have:=g.dp;show depth q + 1 + 1<=_;lia
 sub:=g.sub
 lv:=g.lv
theorem Gr.group(T:TabOk th tr)(g:Gr th tr i used twice q)(hi:i < 26)(h:used<=3){a b:Str}(c:a∈za th q)(mb:b∈za th q):Gr th tr (i + 1) used twice (.group a b (("n":Str) ++ signs.getD i "") (("s":Str) ++ signs.getD i "") q) where
 ok:=by
  have ps:=z9s ⟨i,hi⟩;have d:a∈z08 i 3:=ju (g.heads a c) (ww _) h;exact⟨c,mb,⟨_,z3c hi,rfl,rfl⟩,λz=>ps.1 (z ▸ d),λz=>ps.2 (z ▸ d),g.ok⟩
 rows:=by
  show((z0K _ _).map _).length<=_
  rw [w9];exact wV (z5v _) g.rows
 line:=kK g.line (yR _).1 (by
  have:=zZ T g.ok a c;have:=zZ T g.ok b mb;have:=z2L _ (z3c hi);simp only [zA]
  (walk_at "sl"))
 heads:=λx f=>by
  have e:x∈ [a,(("n":Str) ++ signs.getD i "":Str),(("s":Str) ++ signs.getD i "":Str)]:=f;simp only [wE,qf,Qu]at e;rcases e with rfl | rfl | rfl
  ·exact ju (g.heads _ c) (by lia) (ww _)
  ·unfold z08;exact qe _ (wF _ (qA.mpr ⟨_,z5z hi,rfl⟩))
  ·unfold z08;exact wF _ (qA.mpr ⟨_,z5z hi,rfl⟩)
 dp:=by have:=g.dp;show depth q + 1<=_;lia
 sub:=g.sub
 lv:=g.lv
theorem z5g{a b c m d:Nat}(h1:a<=2400 * (i + 1) * m)(f:b<=a + 1000)(hc:c<=a + b + 100)(hm:1<=m)(h2:d=2 * m):c<=2400 * (i + 1 + 1) * d:=by
 have e:2400 * (i + 1 + 1) * d=2 * (2400 * (i + 1) * m) + 2 * (2400 * m):=by
  rw [h2,Qk 2400 (i + 1) 1,QY,w1A,Nat.mul_left_comm (2400 * (i + 1)) 2 m,Nat.mul_left_comm 2400 2 m]
 lia
theorem Gr.both(T:TabOk th tr)(g:Gr th tr i used twice q)(ht:twice < 2)(d:okQ th r)(b:za th r=za th q)(f:(zA r).length<=(zA q).length + 1000)(a:(rowsOf th tr q).length + (rowsOf th tr r).length<=60)(j:depth r<=depth q + 1)(h:z25 th tr r)(rl:zv r<=zv q)(e:q'= .both q r\/q'= .both r q):Gr th tr (i + 1) used (twice + 1) q':=by
 have hm:twM (twice + 1)=2 * twM twice:=by
  have:twice=0\/twice=1:=by lia
  rcases this with rfl | rfl <;> rfl
 have l:=g.dp;have lv:∀{z:Qn},z= .both q r\/z= .both r q->zv z<=used * twM (twice + 1):=λ{z} e=>by
  have:=g.lv;rw [hm,Nat.mul_left_comm];rcases e with rfl | rfl <;> simp only [zv] <;> lia
 rcases e with rfl | rfl
 ·exact⟨⟨b.symm,g.ok,d⟩,by show(rowsOf th tr q ++ rowsOf th tr r).length<=_;rw [wb];exact a,z5g g.line f (by simp only [zA];(walk_at "sl")) (yR _).1 hm,λx c=>ju (g.heads x c) (by lia) (ww _),by show max _ _ + 1<=_;lia,⟨g.sub,h,a⟩,lv (.inl rfl),λ_=>nofun⟩
 ·exact⟨⟨b,d,g.ok⟩,by show(rowsOf th tr r ++ rowsOf th tr q).length<=_;rw [wb,Nat.add_comm];exact a,z5g g.line f (by simp only [zA];(walk_at "sl")) (yR _).1 hm,λx c=>ju (g.heads x (by rw [<-b];exact c)) (by lia) (ww _),by show max _ _ + 1<=_;lia,⟨h,g.sub,by lia⟩,lv (.inr rfl),λ_=>nofun⟩
theorem Gr.unite(g:Gr th tr i used twice q)(u:Un2 th tr q n q')(hn:∀x∈th n,x∈z08 0 (used + 1))(hl:(rowsOf th tr q).length * (tr n).length<=30):Gr th tr (i + 1) (used + 1) twice q' where
 ok:=u.ok
 rows:=wV u.ln (by lia)
 line:=kK g.line (yR _).1 (by have:=u.li;lia)
 heads:=λx a=>by
  have h1:∀x∈za th q,x∈z08 (i + 1) (used + 1):=λx a=>ju (g.heads x a) (by lia) (by lia)
  have h2:∀x∈th n,x∈z08 (i + 1) (used + 1):=λx a=>ju (hn x a) (by lia) (ww _)
  rcases u.hd with e | e
  ·rw [e]at a;exact(wx.mp a).elim (h1 x) (h2 x)
  ·rw [e]at a;exact(wx.mp a).elim (h2 x) (h1 x)
 dp:=by have:=u.dp;have:=g.dp;lia
 sub:=u.sub g.sub (by lia)
 lv:=by
  have:=g.lv;have:=(yR twice).1;rw [u.lv,QY,w1b]
  lia
 top:=λm e=>absurd e (u.nt m)
end
inductive spGrown (K:W.Frag) (vs:List V) (H:Hp) (Q:VK) (E:XK):Prop
 | mk:∀cp tp (ns:List Int) th tr,vs= [.ref cp,.ref tp]->SqL K H cp (ns.map V.int)->ns.length<=24->TabOk th tr->jE th tr H tp->(∀(v':V) (q:Qn) (used twice:Nat) (H':Hp),zz H H'->yJ th tr H' v' q->Gr th tr ns.length used twice q->used<=3->twice<=2->Q v' H')->spGrown K vs H Q E
theorem zM:FnScope ["_law_cells","_law_tables","_law_state","_law_used","_law_twice","_law_k","_law_seed","_law_turn"] ["_law_cells","_law_tables"] (zm z1i):=by walk_at "s"
set_option maxHeartbeats 1600000 in
theorem z4K(F:Fun K "_law_grown" "_law_grown" z1i f fd)(T:Txt K mg)(s:Kn P w K mg base 8 "_law_picked" ["_law_state","_law_seed"] (spPicked K))(o:Kn P w K mg base 1 "_law_columns" ["_law_state","_law_seed"] (spColumns K))(y:Kn P w K mg base 2 "_law_united" ["_law_state","_law_table","_law_seed"] (spUnited K))
  (B:Kn P w K mg base 1 "_law_beside" ["_law_state","_law_table","_law_seed"] (spBeside K)) (l:Kn P w K mg base 9 "_law_doubled" ["_law_state","_law_seed"] (spDoubled K)) (z:Kn P w K mg base 1 "_law_headed" ["_law_state","_law_seed"] (spHeaded K)) (j:Kn P w K mg base 1 "_law_counted" ["_law_state","_law_seed","_law_sign"] (spCounted K)) (u:Kn P w K mg base 1 "_law_sorted" ["_law_state","_law_seed"] (spSorted K)):
  FnOk P w K mg base CX0 10 f fd ["_law_cells","_law_tables"] (spGrown K):=by
 refine F.okB zM (λvs H Q E h=> ?_) (λvs H Q E h=> ?_)
 ·obtain⟨cp,tp,ns,th,tr,rfl,_⟩:=h
  rfl
 obtain⟨cp,tp,ns,th,tr,rfl,hS,hn,TT,h4,fin⟩:=h;have eK:(ns.map V.int).length=ns.length:=w9 _;intro ac A outer sh hr;have hu:=z1u hr;refine⟨_,(ze (seT 2 zM (zC (zH (zC (zo zi (zo zi zd))) (zo zi (zl (ixT (ixL v1 zb) zb) (zl (ixT (ixL v1 zb) zb) zd))))))
  (ze (seT 3 zM zb)
  (ze (seT 4 zM zb)
  (ze (foR (yi rfl T.range (zT (leN T.len (zf v0 zd)) zd)) (gnM 5 zM)
   (ze (seT 6 zM (zr kh (zr yb (ixL v0 v5) zb) v5))
   (ze (seT 7 zM (zr zS (zr kh (ixL v0 v5) (zr z4e zb v5)) zb))
   (zh (zF (cmT z5p (pv 7) zb)
    (zh (seT 2 zM (zV s hr.m (zf v2 (zf (pv 6) zd)))))
    (zh (zF (cmT zK (pv 7) zb)
     (zh (seT 2 zM (zV o hr.m (zf v2 (zf (pv 6) zd)))))
     (zh (zF (PW.pt (z0d (cmT zK (pv 7) zb) (z0d (cmT z5p v3 zb) (kX (cmT zcv (zr z4e (leN T.len (zl (ixT v2 zb) zd)) (leN T.len (zl (ixT (ixL v1 v3) zb) zd))) zb)))))
      (ze (seT 2 zM (zV y hr.m (zf v2 (zl (ixL v1 v3) (zf (pv 6) zd)))))
      (zh (seT 3 zM (zr kh v3 zb))))
      (zh (zF (PW.pt (z0d (cmT zK (pv 7) zb) (z0d (cmT z5p v4 zb) (kX (cmT zcv (leN T.len (zl (ixT v2 zb) zd)) (zr z34 zb (zr z4e zb v4)))))))
       (ze (zF (z3M (cmT (z9n hu) (ixT v2 zb) (ixT (ixL v1 zb) zb)) (cmT zK (zr zS (pv 6) zb) zb))
        (zh (seT 2 zM (zV B hr.m (zf v2 (zl (ixL v1 zb) (zf (pv 6) zd))))))
        (zh (seT 2 zM (zV l hr.m (zf v2 (zf (pv 6) zd))))))
       (zh (seT 4 zM (zr kh v4 zb))))
       (zh (zF (cmT zK (pv 7) zb)
        (zh (seT 2 zM (zV z hr.m (zf v2 (zf (pv 6) zd)))))
        (zh (zF (cmT zK (pv 7) zb)
         (zh (seT 2 zM (zV j hr.m (zf v2 (zf (pv 6) (zl (yK zdD zi v5 (λ_ _=>rfl)) zd))))))
         (zh (seT 2 zM (zV u hr.m (zf v2 (zf (pv 6) zd))))))))))))))))))))
  (zh (zt v2)))))),?_⟩
 generalize hK0:K=K1
 revert K1
 refine jo (by walk_at "cl") ?_;obtain⟨v0,v1,v2,v3,f0,t0,t1,t2,t3⟩:=id h4;obtain⟨p0,fc,oj,vP,rfl,a1,a3,a4,a5⟩:=t0;refine⟨(zq rfl),λqp c6=> ?_⟩;refine zc (upd _ qp _) rfl c6 λH1 S x1=> ?_
 refine !(zw (S _ _ f0) zD (zg (S _ _ a1) jc (!(zw (S _ _ f0) zD (zg (S _ _ a1) ji ⟨(zq rfl),λsp ao=> ?_⟩)))));refine zc (upd _ sp _) rfl ao λH2 n2 x2=> ?_
 have s2:=S.trans n2;have aX:yJ th tr H2 (.ref sp) (.table "t"):=⟨sp,_,fc,oj,vP,rfl,x2,⟨qp,rfl,n2 _ _ x1⟩,s2 _ _ a3,a4.same s2,a5⟩;have tt:("t":Str)∈tabs:=qE;have g2:Gr th tr 0 1 0 (.table "t"):=by
  refine⟨tt,TT.ct,?_,λx M=> ?_,by decide,TT.ct,by show 1<=1 * 1;decide,λn e=>by cases e;rfl⟩
  ·have:(zA (.table "t")).length<=10:=by decide +kernel
   have:twM 0=1:=rfl
   lia
  ·obtain⟨m,_,_,e⟩:=TT.t;have cf:x∈th "t":=M;rw [e]at cf;exact lIn x (QC cf)
 refine !⟨cp,!⟨.inl (s2.seq hS),!⟨by lia,by rw [eK];lia,kJ (lo:=0) (n:=(ns.map V.int).length) (λi σ H'=>∃(v:V) (q:Qn) (used twice:Nat) (o5 o6 o7:Option V),σ= [some (.ref cp),some (.ref tp),some v,some (.int (used:Int)),some (.int (twice:Int)),o5,o6,o7]/\zz H H'/\yJ th tr H' v q/\Gr th tr i used twice q/\1<=used/\used<=3/\twice<=2)
  ⟨_,_,1,0,none,none,none,rfl,s2,aX,g2,by decide,by decide,by decide⟩ ?_ ?_⟩⟩⟩
 ·rintro i σ H3 hi ⟨v,q,used,twice,o5,o6,o7,rfl,C,I,d,J,G,w2⟩;rw [eK]at hi;have iK:i<=24:=by lia
  have bN:atI (ns.map V.int) (0 + (i:Int))=some (.int (ns.getD i 0)):=by
   rw [w0D];exact zX (int_at hi)
  generalize ns.getD i 0=c at bN
  have sM:=C.seq hS;have big:=d.big iK;have rows:=d.rows;have wide:=d.wide TT (by lia) G;refine !(!⟨cp,_,_,!⟨rfl,sM,bN,_,!⟨rfl,⟨by decide,by decide⟩,!⟨_,!⟨rfl,?_⟩⟩⟩⟩⟩);refine !(!⟨cp,_,_,!⟨rfl,sM,bN,!⟨_,!⟨rfl,.inl ⟨by decide,by decide⟩,_,!⟨rfl,_,!⟨rfl,(by show(0:Int) < 9;decide),?_⟩⟩⟩⟩⟩⟩);refine !⟨_,!⟨rfl,!?_⟩⟩;refine yV (λb0=> ?_) (λb0=> ?_)
  ·refine !(!⟨th,tr,q,v,_,rfl,TT,I,d.ok,by lia,by lia,λv' c' H' s' D U sz=> ?_⟩);exact⟨v',_,used,twice,_,_,!⟨C.trans s',D,d.pick TT U sz,J,G,w2⟩⟩
  refine !⟨rfl,!?_⟩;refine yV (λb1=> ?_) (λb1=> ?_)
  ·refine !(!⟨th,tr,q,v,_,rfl,TT,I,d.ok,by lia,by lia,by lia,λv' vQ H' s' D ne nd sub=> ?_⟩);exact⟨v',_,used,twice,_,_,!⟨C.trans s',D,d.cols TT iK G ne nd sub,J,G,w2⟩⟩
  refine z7r (z7H ?els) (λels=> ?main)
  case main=>
   refine !⟨rfl,!?_⟩;refine yV (λb2=> ?_) (λb2=>els);refine !⟨_,!⟨rfl,!?_⟩⟩;refine yV (λL=> ?_) (λL=>els);have vR:(used:Int) < 3:=qi L;obtain⟨p,qv,hp,rp,rs,rfl,h1,h2,h3,iL,Y⟩:=id I;have CO:rs.length<=60:=by rw [<-Y,w9]at rows;exact rows
   obtain⟨tv,n,sN,ht,mn,vS,aQ,CP⟩:∃(tv:V) (n:Str),atI [V.ref p0,v1,v2,v3] (used:Int)=some tv/\TabAt th tr H3 tv n/\n∈tabs/\(∀x∈za th q,x∉th n)/\(∀x∈th n,x∈z08 0 (used + 1))/\(tr n).length<=10:=by
    have:used=1\/used=2:=by lia
    rcases this with rfl | rfl
    ·refine⟨v1,_,jc,t1.same C,by simp [tabs],λx M N=> ?_,?_,TT.cw⟩
     ·rw [TT.w]at N;exact zcA x N (ju (d.heads x M) (by lia) (ww _))
     ·rw [TT.w];exact wIn
    ·refine⟨v2,_,ji,t2.same C,by simp [tabs],λx M N=> ?_,?_,TT.cx⟩
     ·rw [TT.x]at N;exact zcN x N (ju (d.heads x M) (by lia) (ww _))
     ·rw [TT.x];exact eIn
   obtain⟨sO,lY,iq,ts,rfl,c1,c3,c4,c5⟩:=id ht;have vT:ts.length=(tr n).length:=by rw [<-c5,w9]
   have O:=C _ _ f0;refine !(zg h1 z0O ⟨rp,!⟨.inl (SqL.of iL.1),!(!(zw O sN (zg c1 ji ⟨iq,!⟨.inl (SqL.of c4.1),_,!⟨rfl,.inl ⟨by rw [w9];lia,by rw [w9];lia⟩,_,!⟨rfl,!?_⟩⟩⟩⟩)))⟩⟩);refine yV (λR=> ?_) (λR=>els);have X:=qi R;rw [w9,w9,vT]at X;have b5:(rowsOf th tr q).length * (tr n).length<=30:=by
    rw [<-Y,w9]
    exact_mod_cast X
   have vU:(th n).length<=1000:=by
    have:used=1\/used=2:=by lia
    have:=yY (TT.hd n mn).2 λx M=>ju (aQ x M) (qY 26) (show used + 1<=3 by lia)
    have:=z4k
    lia
   refine !(!(!(zw O sN (!⟨th,tr,q,n,_,_,_,rfl,TT,I,d.ok,ht,mn,vS,by lia,by lia,by lia,by lia,vU,λv' q' H' s' D un=> ?_⟩))));refine !⟨_,!⟨rfl,?_⟩⟩;exact⟨v',q',used + 1,twice,_,_,!⟨C.trans s',D,d.unite un aQ b5,by lia,by lia,w2⟩⟩
  case els=>
   refine z7r (z7H ?els2) (λels=> ?main2)
   case main2=>
    refine !⟨rfl,!?_⟩;refine yV (λb2=> ?_) (λb2=>els);refine !⟨_,!⟨rfl,!?_⟩⟩;refine yV (λL=> ?_) (λL=>els);have vR:(twice:Int) < 2:=qi L;have tw2:twice < 2:=by lia
    obtain⟨p,qv,hp,rp,rs,rfl,h1,h2,h3,iL,Y⟩:=id I;refine !(zg h1 z0O ⟨rp,!⟨.inl (SqL.of iL.1),!⟨_,!⟨rfl,.inl ⟨by decide,by decide⟩,_,!⟨rfl,_,!⟨rfl,!?_⟩⟩⟩⟩⟩⟩);refine yV (λR=> ?_) (λR=>els);have X:=qi R;rw [w9]at X;have b5:(rowsOf th tr q).length<=15:=by rw [<-Y,w9];lia
    have O:=C _ _ f0;obtain⟨p3,bY,rT,CQ,rfl,d1,d3,d4,d5⟩:=id (t3.same C);refine !(zg h1 ji (!(zw O z0O (zg d1 jc ⟨hp,bY,_,!⟨rfl,SqL.of h3,SqL.of d3,jd _,jd _,!⟨_,(!⟨_,!⟨rfl,(by show(0:Int) < 3;decide),rfl,!⟨rfl,rfl⟩⟩⟩),?_⟩⟩⟩))));rw [z6O];refine yV (λb6=> ?_) (λb6=> ?_)
    ·rw [qT]at b6;have eh:za th q=th "tuvz":=qi b6.1;refine !(!(zw O z0O (!⟨th,tr,q,"tuvz",_,_,_,rfl,I,t3.same C,eh,by decide +kernel,by lia,by lia,by rw [TT.cz];decide,λv' q' H' s' D e'=> ?_⟩)));refine !⟨_,!⟨rfl,?_⟩⟩;have mz:("tuvz":Str)∈tabs:=by simp [tabs]
     have lz:(zA (.table "tuvz")).length<=(zA q).length + 1000:=wV (show(zA (.table "tuvz")).length<=10 by decide +kernel) (by lia);have Z:(rowsOf th tr q).length + (rowsOf th tr (.table "tuvz")).length<=60:=by
      show _ + (tr "tuvz").length<=60
      rw [TT.cz];lia
     exact⟨v',q',used,twice + 1,_,_,!⟨C.trans s',D,d.both TT tw2 (r:= .table "tuvz") mz eh.symm lz Z (by show 1<=_;lia) (z6w TT _ mz) (yp q) e',J,G,by lia⟩⟩
    ·refine !(!⟨th,tr,q,_,_,rfl,TT,I,d.ok,by lia,by lia,λv' q' c' H' s' D U sz e'=> ?_⟩);refine !⟨_,!⟨rfl,?_⟩⟩;have gp:=d.pick TT U sz;have Z:(rowsOf th tr q).length + (rowsOf th tr (.pick c' q)).length<=60:=by
      have:(rowsOf th tr (.pick c' q)).length<=(rowsOf th tr q).length:=qz _ _
      lia
     exact⟨v',q',used,twice + 1,_,_,!⟨C.trans s',D,d.both TT tw2 (r:= .pick c' q) gp.ok rfl (z3R (zZ TT d.ok) U sz) Z (by show depth q + 1<=_;lia) d.sub (ww _) e',J,G,by lia⟩⟩
   case els2=>
    refine !⟨rfl,!?_⟩;refine yV (λb2=> ?_) (λb2=> ?_)
    ·refine !(!⟨th,tr,q,v,_,rfl,I,by lia,λv' q' H' s' D cV=> ?_⟩);obtain⟨m,mm,rfl | ⟨m',eJ,rfl⟩⟩:=cV
     ·exact⟨v',_,used,twice,_,_,!⟨C.trans s',D,d.first mm,J,G,w2⟩⟩
     ·exact⟨v',_,used,twice,_,_,!⟨C.trans s',D,d.firsts mm eJ,J,G,w2⟩⟩
    refine !⟨rfl,!?_⟩;refine yV (λL=> ?_) (λL=> ?_)
    ·obtain⟨ch,ec,es⟩:=zbA (i:=i) (by lia);have l1:=(z2L _ (z3c (i:=i) (by lia))).2.2;refine !(!(!⟨z9N,_,!⟨rfl,zb5,ec,th,tr,q,v,_,_,rfl,TT,I,d.ok,by rw [es];exact l1,by lia,by lia,λv' a b H' s' D ma mb=> ?_⟩⟩));rw [es]at D;exact⟨v',_,used,twice,_,_,!⟨C.trans s',D,d.group TT (by lia) G ma mb,J,G,w2⟩⟩
    ·refine !(!⟨th,tr,q,v,_,rfl,TT,I,d.ok,by lia,by lia,λv' n' H' s' D mn=> ?_⟩);exact⟨v',_,used,twice,_,_,!⟨C.trans s',D,d.sort TT mn,J,G,w2⟩⟩
 ·rintro σ H3 ⟨v,q,used,twice,o5,o6,o7,rfl,C,I,d,J,G,w2⟩;rw [eK]at d;exact !(fin v q used twice H3 C I d G w2)
theorem ints_snoc{zs:List Int}{z:Int}(h:zs.length=j):∃a:List Int,zs.map V.int ++ [V.int z]=a.map V.int/\a.length=j + 1:=
 ⟨zs ++ [z],by rw [wC];rfl,by rw [wb,h];rfl⟩
theorem zcl{ns:List Int}(h:0 < ns.length):atI (ns.map V.int) (-1)=some (.int (ns.getD (ns.length - 1) 0)):=by
 have e:=int_at (xs:=ns) (i:=ns.length - 1) (by lia);have h2:ixN (ns.map V.int).length (-1)=some (ns.length - 1):=by
  unfold ixN;rw [wM (by decide),wU (by rw [w9];lia),w9]
  congr 1
  lia
 unfold atI;rw [h2];exact e
structure Stk(H H':Hp)(rp r0 r1 r2:Addr)(a b c:List (Addr×List Int))(hl:Nat):Prop where
 same:zz H H'
 top:H' rp=some (.lst [.ref r0,.ref r1,.ref r2])
 h0:RowsAt H' r0 a
 h1:RowsAt H' r1 b
 h2:RowsAt H' r2 c
 f0:H r0=none
 f1:H r1=none
 f2:H r2=none
 n01:r0≠r1
 n02:r0≠r2
 n12:r1≠r2
 np0:rp≠r0
 np1:rp≠r1
 np2:rp≠r2
 a0:∀r∈a,r.1≠r0/\r.1≠r1/\r.1≠r2
 a1:∀r∈b,r.1≠r0/\r.1≠r1/\r.1≠r2
 a2:∀r∈c,r.1≠r0/\r.1≠r1/\r.1≠r2
 w0:∀r∈a,r.2.length=hl
 w1:∀r∈b,r.2.length=2
 w2:∀r∈c,r.2.length=1
def Stk.new{b c:List (Addr×List Int)}(s:Stk H H' rp r0 r1 r2 a b c hl)(e:zz H' H1):Stk H H1 rp r0 r1 r2 a b c hl:=
 {s with same:=s.same.trans e,top:=e _ _ s.top,h0:=s.h0.same e,h1:=s.h1.same e,h2:=s.h2.same e}
def Stk.fresh{q:Addr}{b c:List (Addr×List Int)}(s:Stk H H' rp r0 r1 r2 a b c hl)(h:H' q=none):q≠r0/\q≠r1/\q≠r2:=
 ⟨(zy s.h0.1 h).symm,(zy s.h1.1 h).symm,(zy s.h2.1 h).symm⟩
theorem Stk.push0{q:Addr}{b c:List (Addr×List Int)}(s:Stk H H' rp r0 r1 r2 a b c hl)(hq:H' q=some (.lst (x.map V.int)))(d:q≠r0/\q≠r1/\q≠r2)(e:x.length=hl):
  Stk H (upd H' r0 (.lst (refs a ++ [V.ref q]))) rp r0 r1 r2 (a ++ [(q,x)]) b c hl where
 same:=s.same.put s.f0
 top:=by rw [zn s.np0];exact s.top
 h0:=s.h0.push d.1 hq
 h1:=s.h1.kp z2q s.n01.symm λr m=>(s.a1 r m).1
 h2:=s.h2.kp z2q s.n02.symm λr m=>(s.a2 r m).1
 f0:=s.f0
 f1:=s.f1
 f2:=s.f2
 n01:=s.n01
 n02:=s.n02
 n12:=s.n12
 np0:=s.np0
 np1:=s.np1
 np2:=s.np2
 a0:=λr m=>(wx.mp m).elim (s.a0 r) λm=>by rw [wu.mp m];exact d
 a1:=s.a1
 a2:=s.a2
 w0:=λr m=>(wx.mp m).elim (s.w0 r) λm=>by rw [wu.mp m];exact e
 w1:=s.w1
 w2:=s.w2
theorem Stk.push1{q:Addr}{b c:List (Addr×List Int)}(s:Stk H H' rp r0 r1 r2 a b c hl)(hq:H' q=some (.lst (x.map V.int)))(d:q≠r0/\q≠r1/\q≠r2)(e:x.length=2):
  Stk H (upd H' r1 (.lst (refs b ++ [V.ref q]))) rp r0 r1 r2 a (b ++ [(q,x)]) c hl where
 same:=s.same.put s.f1
 top:=by rw [zn s.np1];exact s.top
 h0:=s.h0.kp z2q s.n01 λr m=>(s.a0 r m).2.1
 h1:=s.h1.push d.2.1 hq
 h2:=s.h2.kp z2q s.n12.symm λr m=>(s.a2 r m).2.1
 f0:=s.f0
 f1:=s.f1
 f2:=s.f2
 n01:=s.n01
 n02:=s.n02
 n12:=s.n12
 np0:=s.np0
 np1:=s.np1
 np2:=s.np2
 a0:=s.a0
 a1:=λr m=>(wx.mp m).elim (s.a1 r) λm=>by rw [wu.mp m];exact d
 a2:=s.a2
 w0:=s.w0
 w1:=λr m=>(wx.mp m).elim (s.w1 r) λm=>by rw [wu.mp m];exact e
 w2:=s.w2
theorem Stk.push2{q:Addr}{b c:List (Addr×List Int)}(s:Stk H H' rp r0 r1 r2 a b c hl)(hq:H' q=some (.lst (x.map V.int)))(d:q≠r0/\q≠r1/\q≠r2)(e:x.length=1):
  Stk H (upd H' r2 (.lst (refs c ++ [V.ref q]))) rp r0 r1 r2 a b (c ++ [(q,x)]) hl where
 same:=s.same.put s.f2
 top:=by rw [zn s.np2];exact s.top
 h0:=s.h0.kp z2q s.n02 λr m=>(s.a0 r m).2.2
 h1:=s.h1.kp z2q s.n12 λr m=>(s.a1 r m).2.2
 h2:=s.h2.push d.2.2 hq
 f0:=s.f0
 f1:=s.f1
 f2:=s.f2
 n01:=s.n01
 n02:=s.n02
 n12:=s.n12
 np0:=s.np0
 np1:=s.np1
 np2:=s.np2
 a0:=s.a0
 a1:=s.a1
 a2:=λr m=>(wx.mp m).elim (s.a2 r) λm=>by rw [wu.mp m];exact d
 w0:=s.w0
 w1:=s.w1
 w2:=λr m=>(wx.mp m).elim (s.w2 r) λm=>by rw [wu.mp m];exact e
theorem zL:FnScope ["_law_cells","_law_more","_law_rows","_law_heads","_law_k","_law_cell","_law_one","_law_other","_law_rest","_law_first","_law_made"] ["_law_cells","_law_more"] (zm jQ):=by walk_at "s"
set_option maxHeartbeats 1600000 in
theorem z3E(F:Fun K "_law_stocked" "_law_stocked" jQ f fd)(T:Txt K mg):FnOk P w K mg base CX0 1 f fd ["_law_cells","_law_more"] (spStocked K):=by
 refine F.okB zL (λvs H Q E h=> ?_) (λvs H Q E h=> ?_)
 ·obtain⟨cp,ns,more,rfl,_⟩:=h
  rfl
 obtain⟨cp,ns,more,rfl,Y,hn,CS,CT,fin⟩:=h;have eK:(ns.map V.int).length=ns.length:=w9 _;have z0:0<=sizeLine:=by decide
 intro ac A outer sh hr;refine⟨_,(ze (seT 2 zL (zx (jL (zx zd) (jL (zx zd) (jL (zx zd) zd)))))
  (ze (kD (i:=3) zL.nd rfl (QH rfl) (zx (zo zi (zo zi (zo zi (zo zi (zo zi (zo zi (zo zi (zo zi (zo zi (zo zi (zo zi (zo zi zd))))))))))))))
  (ze (kD (i:=3) zL.nd rfl (QH rfl) (j8 kj v3 jx (jn (ixL (zx (yo (zr kh zb (zr zS (zQ (z2Z rfl) rfl T.sum w0V (zl (j8 kj v0 jx (jn zb)) zd)) zb)) (zo zb zd))) (je z99 rfl T.int PyProof.Rows.boot_int (zcn (cmE zK (zr zS (zQ (z2Z rfl) rfl T.sum w0V (zl (j8 kj v0 jx (jn zb)) zd)) zb) zb) zd))))))
  (ze (foR (yi rfl T.range (zT (zQ (z8Q rfl) rfl T.max PyProof.Rows.boot_max (zo zb (zT (leN T.len (zf v0 zd)) zd))) zd)) (z0J (i:=4) zL.nd rfl (QH rfl))
   (ze (kD (i:=5) zL.nd rfl (QH rfl) (zr kh (zr z4e zb v4) zb))
   (ze (kO (cmT z5p v4 (leN T.len (zf v0 zd)))
    (zh (kD (i:=5) zL.nd rfl (QH rfl) (ixL v0 v4)))
    zu)
   (ze (seT 6 zL (zr z34 (zr zS v5 zb) zb))
   (ze (seT 7 zL (zr z34 (zr zS (zr kh (zr yb v5 zb) v4) zb) zb))
   (ze (kO (cmT zK (zr zS v5 zb) zb)
    (zh (seT 7 zL (zr kh (pv 7) (z3G ⟨by decide,by decide,by decide⟩))))
    zu)
   (ze (jH (j:=8) rfl zL.nd rfl (QV rfl) (CompSc.of (sx:=zm jQ) (NX:= ["_law_cells","_law_more","_law_rows","_law_heads","_law_k","_law_cell","_law_one","_law_other","_law_rest","_law_first","_law_made"]) (fr:= ["_law_cell","_law_k"]) (ix:= [5,4]) rfl rfl (by decide +kernel)) (z9k rfl T.range (zo zb (zT (leN T.len (zf v3 zd)) zd))) (λ_ _ _ _ _ _=>jM) (λ_ _ _ _ _ _=>(zr zS (zr kh (zr kh (zr yb v1 zb) v2) v0) zb)))
   (ze (seT 9 zL (zr ke (zx (zf (pv 6) (zf (pv 7) zd))) (pv 8)))
   (zh (jg (apP (ixL v2 (zr zS v4 zb)) (zl (ixL (zx (zf (pv 9) (jL (zx (zf (pv 7) (zf (pv 6) zd))) (jL (zx (zf (pv 6) zd)) zd)))) (zr zS v4 zb)) zd))))))))))))
  (ze (kO (cmT zK (zr zS (zQ (z2Z rfl) rfl T.sum w0V (zl (j8 kj v0 (jn (k8 yl zb)) jx) zd)) zb) zb)
   (zh (foR (yi rfl T.range (zf v1 zd)) (z0J (i:=4) zL.nd rfl (QH rfl))
    (zh (jg (apP (ixL v2 zb) (z1g (yz rfl (CompSc.of (sx:=zm jQ) (NX:= ["_law_cells","_law_more","_law_rows","_law_heads","_law_k","_law_cell","_law_one","_law_other","_law_rest","_law_first","_law_made"]) (fr:= ["_law_k"]) (ix:= [4]) rfl rfl (by decide +kernel)) (yi rfl T.range (zT (leN T.len (zf v3 zd)) zd)) (λ_ _ _ _ _ _=>jM) (λ_ _ _ _ _ _=>(zr z34 (zr zS (zr kh v1 v0) zb) zb))) zd))))))
   zu)
  (ze (kO (PW.pt (z0d (cmT z6g (leN T.len (zf v0 zd)) zb) (kX (cmT zK (zr zS (ixL v0 zb) zb) zb))))
   (zh (z7P (zx zd) (z7h v2 (zr zS (ixL v0 (k8 yl zb)) zb) set_list)))
   zu)
  (ze (seT 10 zL (zx (zH (zC (zo zi (zf v3 (zl (ixL v2 zb) zd)))) (zH (zC (zo zi (jL (zx (zo zi (zo zi zd))) (zl (ixL v2 zb) zd)))) zd))))
  (ze (jH (j:=7) rfl zL.nd rfl (QV rfl) (CompSc.of (sx:=zm jQ) (NX:= ["_law_cells","_law_more","_law_rows","_law_heads","_law_k","_law_cell","_law_one","_law_other","_law_rest","_law_first","_law_made"]) (fr:= ["_law_heads"]) (ix:= [3]) rfl rfl (by decide +kernel)) (yi rfl T.range (zo zb zd)) (λ_ _ _ _ _ _=>jM) (λ_ _ _ _ _ _=>(yz rfl (CompSc.of2 (sx:=zm jQ) (NX:= ["_law_m","_law_heads"]) (fr:= ["_law_m"]) (ix:= [0]) rfl rfl (by decide +kernel)) (yi rfl T.range (zT (zQ (z50 (K:=K) rfl) rfl T.len PySem.boot_len (zf v1 zd)) zd)) (λ_ _ _ _ _ _=>jM) (λ_ _ _ _ _ _=>(zr z34 (zr zS (zr kh (zr z4e zb v1) v0) zb) zb)))))
  (zh (zt (zr ke (pv 10) (zx (zH (zC (zo zi (jL (zx (zo zi zd)) (zl (ixL v2 zb) zd)))) (zH (zC (zo zi (zT (je jY rfl T.list qF (zf v3 zd)) (zf (pv 7) zd)))) zd)))))))))))))),?_⟩
 generalize hK0:K=K1
 revert K1
 refine jo (by walk_at "cl") ?_;refine⟨z0,λr0 dI=> ?_⟩;refine zc (upd _ r0 _) rfl dI λH1 n1 x1=> ?_
 refine⟨z0,λr1 ff=> ?_⟩;refine zc (upd _ r1 _) rfl ff λH2 n2 x2=> ?_
 refine⟨z0,λr2 cY=> ?_⟩;refine zc (upd _ r2 _) rfl cY λH3 n3 x3=> ?_
 refine⟨(zq rfl),λrp dW=> ?_⟩;refine zc (upd _ rp _) rfl dW λH4 n4 x4=> ?_
 refine⟨(zq rfl),λfc eM=> ?_⟩;refine zc (upd _ fc _) rfl eM λH5 n5 x5=> ?_
 replace x5:H5 fc=some (.lst (j9.map V.str)):=x5;have s3:=n1.trans (n2.trans n3);have s5:=s3.trans (n4.trans n5);have dJ:∀hl,Stk H H5 rp r0 r1 r2 [] [] [] hl:=λhl=>⟨s5,n5 _ _ x4,kC (n5 _ _ (n4 _ _ (n3 _ _ (n2 _ _ x1)))),kC (n5 _ _ (n4 _ _ (n3 _ _ x2))),kC (n5 _ _ (n4 _ _ x3)),dI,n1.free ff,(n1.trans n2).free cY,zy x1 ff,zy (n2 _ _ x1) cY,zy x2 cY,(zy (n3 _ _ (n2 _ _ x1)) dW).symm,(zy (n3 _ _ x2) dW).symm,(zy x3 dW).symm,λ_ z=>(by cases z),λ_ z=>(by cases z),λ_ z=>(by cases z),λ_ z=>(by cases z),λ_ z=>(by cases z),λ_ z=>(by cases z)⟩
 refine !(!(!⟨cp,!⟨s5.seq Y,λl1 fz=> ?_⟩⟩));rw [z2B];refine zc (upd _ l1 _) rfl fz λH6 n6 x6=> ?_
 refine⟨l1,!⟨SqL.of x6,_,!⟨rfl,(by show(0:Int) < 5;decide),_,!⟨rfl,(zq rfl),λl2 aF=> ?_⟩⟩⟩⟩;generalize ((ns.drop (HT.sIx ns.length 0 none)).take (HT.sIx ns.length ns.length (some 1) - HT.sIx ns.length 0 none)).sum=sm;refine zc (upd _ l2 _) rfl aF λH7 n7 x7=> ?_
 refine !(!⟨cp,!⟨(s5.trans (n6.trans n7)).seq Y,λl3 as=> ?_⟩⟩);rw [z2B];refine zc (upd _ l3 _) rfl as λH8 n8 x8=> ?_
 refine⟨l3,!⟨SqL.of x8,_,!⟨rfl,(by show(0:Int) < 11;decide),rfl,.inr (!?_)⟩⟩⟩;have bA:=n6.trans (n7.trans n8);obtain⟨m,m1,m2,em⟩:∃m:Int,2<=m/\m<=12/\atI [V.int (2 + sm % 5),V.int 12] (if decide (V.int (((ns.drop (HT.sIx ns.length 0 none)).take (HT.sIx ns.length ns.length (some 1) - HT.sIx ns.length 0 none)).sum % 11)=V.int 4)=true then 1 else 0)=some (.int m):=by
  cases decide (V.int (((ns.drop (HT.sIx ns.length 0 none)).take (HT.sIx ns.length ns.length (some 1) - HT.sIx ns.length 0 none)).sum % 11)=V.int 4)with
  | true=>exact⟨12,by decide,by decide,jc⟩
  | false=>exact⟨2 + sm % 5,by lia,by lia,zD⟩
 refine zw (n8 _ _ x7) em (!⟨fc,!⟨SqL.of (bA _ _ x5),λhp cg=> ?_⟩⟩);rw [z22 (by lia),<-w0G];refine zc (upd _ hp _) rfl cg λH9 n9 x9=> ?_
 have g6:(j9.take m.toNat).length=m.toNat:=by
  rw [wS];have:j9.length=12:=rfl
  lia
 have iM:=(dJ m.toNat).new (bA.trans n9);have fW:((j9.take m.toNat).map V.str).length=m.toNat:=by rw [w9,g6]
 have sP:hp≠r0:=(zy ((bA _ _ ((dJ 0).h0.1))) cg).symm;have vV:hp≠r1:=(zy ((bA _ _ ((dJ 0).h1.1))) cg).symm;have vW:hp≠r2:=(zy ((bA _ _ ((dJ 0).h2.1))) cg).symm;have oQ:hp≠rp:=(zy ((bA _ _ ((dJ 0).top))) cg).symm;have CU:∀{H':Hp},zz H9 H'->H' hp=some (.lst ((j9.take m.toNat).map V.str)):=λe=>e _ _ x9
 have emax:(if(((ns.map V.int).length:Nat):Int) > 12 then(((ns.map V.int).length:Nat):Int)else 12)=((max 12 ns.length:Nat):Int):=by
  rw [eK];split <;> lia
 refine !⟨cp,!⟨.inl (iM.same.seq Y),_,!⟨((max 12 ns.length:Nat):Int),Qa (λz=> [V.int z]) emax,by lia,by lia,kJ (lo:=0) (n:=max 12 ns.length) (λi σ H'=>∃(a b c:List (Addr×List Int)) (y o5 X Z O N:Option V),σ= [some (.ref cp),some (.int more),some (.ref rp),some (.ref hp),y,o5,X,Z,O,N,none]/\Stk H H' rp r0 r1 r2 a b c m.toNat/\H' hp=some (.lst ((j9.take m.toNat).map V.str))/\
  a.length=(i + 2) / 3/\b.length=(i + 1) / 3/\c.length=i / 3) ⟨[],[],[],none,none,none,none,none,none,rfl,iM,x9,rfl,rfl,rfl⟩ ?_ ?_⟩⟩⟩
 ·rintro i σ G hi ⟨a,b,c,y,o5,X,Z,O,N,rfl,k0,eM,la,lb,lc⟩;have vX:i < 18:=by lia
  refine !⟨_,!⟨rfl,.inl ⟨by decide,by decide⟩,_,!⟨rfl,?_⟩⟩⟩;refine⟨λσ l=>∃cell:Int,σ= [some (.ref cp),some (.int more),some (.ref rp),some (.ref hp),some (.int (0 + (i:Int))),some (.int cell),X,Z,O,N,none]/\l=G,?_,?_⟩
  ·refine !(!⟨cp,!⟨.inl (k0.same.seq Y),_,!⟨rfl,!?_⟩⟩⟩);refine yV (λS=> ?_) (λS=> ?_)
   ·have cA:=qi S;rw [eK]at cA;have bN:atI (ns.map V.int) (0 + (i:Int))=some (.int (ns.getD i 0)):=by rw [w0D];exact zX (int_at (by lia))
    refine !(!⟨cp,_,_,!⟨rfl,k0.same.seq Y,bN,?_⟩⟩);exact !rfl
   ·exact !rfl
  rintro σ G ⟨cell,rfl,rfl⟩;refine !⟨_,!⟨rfl,(by show(0:Int) < 4;decide),_,!⟨rfl,?_⟩⟩⟩;refine !⟨_,!⟨rfl,⟨by decide,by decide⟩,!⟨_,!⟨rfl,_,!⟨rfl,(by show(0:Int) < 5;decide),_,!⟨rfl,?_⟩⟩⟩⟩⟩⟩;refine⟨λσ l=>∃one other:Int,σ= [some (.ref cp),some (.int more),some (.ref rp),some (.ref hp),some (.int (0 + (i:Int))),some (.int cell),some (.int one),some (.int other),O,N,none]/\l=G,?_,?_⟩
  ·refine !⟨_,!⟨rfl,(by show(0:Int) < 23;decide),rfl,!?_⟩⟩;refine yV (λS=> ?_) (λS=> ?_)
   ·refine !⟨_,!⟨rfl,?_⟩⟩;exact⟨_,!rfl⟩
   ·exact⟨_,!rfl⟩
  rintro σ G ⟨one,other,rfl,rfl⟩;refine !⟨hp,!⟨.inl (SqL.of eM),2,(m.toNat:Int),Qa (λz:Nat=> [V.int 2,V.int ((z:Nat):Int)]) fW,⟨by lia,by lia,by lia,by lia⟩,?_⟩⟩;refine z05 (lo:=2) (n:=((m.toNat:Int) - 2).toNat) (λj ys H'=>H'=G/\∃zs:List Int,ys=zs.map V.int/\zs.length=j) ⟨rfl,[],rfl,rfl⟩ ?_ ?_ ?_
  ·rintro j ys l hj ⟨rfl,zs,rfl,I⟩;exact zG (by rw [w9];lia)
  ·rintro j ys l hj ⟨rfl,zs,rfl,I⟩;refine !⟨_,!⟨rfl,⟨by decide,by decide⟩,!⟨_,!⟨rfl,!⟨_,!⟨rfl,_,!⟨rfl,(by show(0:Int) < 3;decide),rfl,ints_snoc I⟩⟩⟩⟩⟩⟩⟩
  rintro ys G ⟨rfl,rest,rfl,sQ⟩ tp ax;refine zc (upd _ tp _) rfl ax λG1 e1 y1=> ?_
  have dX:2 + rest.length=m.toNat:=by lia
  refine !(!⟨(zq rfl),λl4 au=> ?_⟩);refine zc (upd _ l4 _) rfl au λG2 U y2=> ?_
  refine !⟨l4,tp,_,!⟨rfl,y2,U _ _ y1,ja (by rw [w9];simp only [wJ,Qe];lia),λfp bT=> ?_⟩⟩;have d:=k0.new (e1.trans U);have nf:=d.fresh bT;refine zc (upd _ fp _) rfl bT λG3 e3 x9=> ?_
  replace x9:G3 fp=some (.lst (([one,other] ++ rest).map V.int)):=by rw [x9,wC];rfl
  have B:=d.new e3;have bY:=(e1.trans (U.trans e3)) _ _ eM;have eN:i % 3=0\/i % 3=1\/i % 3=2:=by lia
  rcases eN with sR | sR | sR
  ·have D:(0 + (i:Int)) % 3=0:=by lia
   have iN:atI [V.ref r0,V.ref r1,V.ref r2] ((0 + (i:Int)) % 3)=some (V.ref r0):=by rw [D];exact zD
   refine !(!⟨_,!⟨rfl,(by show(0:Int) < 3;decide),zw B.top iN ⟨.inl ⟨rfl,_,SqL.of B.h0.1⟩,!(!(!⟨(zq rfl),λu1 de=> ?_⟩))⟩⟩⟩);refine zc (upd _ u1 _) rfl de λG4 t y4=> ?_
   refine !⟨(zq rfl),λu2 C=> ?_⟩;refine zc (upd _ u2 _) rfl C λG5 s y5=> ?_
   refine⟨(zq rfl),λu3 L=> ?_⟩;refine zc (upd _ u3 _) rfl L λG6 p y6=> ?_
   have k6:=B.new (t.trans (s.trans p));have iO:=(t.trans (s.trans p)) _ _ bY;refine !⟨_,!⟨rfl,(by show(0:Int) < 3;decide),zw y6 (by rw [D];exact zD) ⟨r0,_,!⟨rfl,k6.h0.1,zG (by rw [w9];lia),?_⟩⟩⟩⟩;refine⟨_,_,_,_,_,_,_,_,!⟨k6.push0 (x:= [one,other] ++ rest) ((t.trans (s.trans p)) _ _ x9) nf (by simp;lia),by rw [zn sP];exact iO,by rw [wb,wD];lia,by lia,by lia⟩⟩
  ·have D:(0 + (i:Int)) % 3=1:=by lia
   have iN:atI [V.ref r0,V.ref r1,V.ref r2] ((0 + (i:Int)) % 3)=some (V.ref r1):=by rw [D];exact jc
   refine !(!⟨_,!⟨rfl,(by show(0:Int) < 3;decide),zw B.top iN ⟨.inl ⟨rfl,_,SqL.of B.h1.1⟩,!(!(!⟨(zq rfl),λu1 de=> ?_⟩))⟩⟩⟩);refine zc (upd _ u1 _) rfl de λG4 t y4=> ?_
   refine !⟨(zq rfl),λu2 C=> ?_⟩;refine zc (upd _ u2 _) rfl C λG5 s y5=> ?_
   refine⟨(zq rfl),λu3 L=> ?_⟩;refine zc (upd _ u3 _) rfl L λG6 p y6=> ?_
   have k6:=B.new (t.trans (s.trans p));have iO:=(t.trans (s.trans p)) _ _ bY;refine !⟨_,!⟨rfl,(by show(0:Int) < 3;decide),zw y6 (by rw [D];exact jc) ⟨r1,_,!⟨rfl,k6.h1.1,zG (by rw [w9];lia),?_⟩⟩⟩⟩;refine⟨_,_,_,_,_,_,_,_,!⟨k6.push1 (x:= [other,one]) (p _ _ (s _ _ y4)) (B.fresh de) rfl,by rw [zn vV];exact iO,by lia,by rw [wb,wD];lia,by lia⟩⟩
  ·have D:(0 + (i:Int)) % 3=2:=by lia
   have iN:atI [V.ref r0,V.ref r1,V.ref r2] ((0 + (i:Int)) % 3)=some (V.ref r2):=by rw [D];exact ji
   refine !(!⟨_,!⟨rfl,(by show(0:Int) < 3;decide),zw B.top iN ⟨.inl ⟨rfl,_,SqL.of B.h2.1⟩,!(!(!⟨(zq rfl),λu1 de=> ?_⟩))⟩⟩⟩);refine zc (upd _ u1 _) rfl de λG4 t y4=> ?_
   refine !⟨(zq rfl),λu2 C=> ?_⟩;refine zc (upd _ u2 _) rfl C λG5 s y5=> ?_
   refine⟨(zq rfl),λu3 L=> ?_⟩;refine zc (upd _ u3 _) rfl L λG6 p y6=> ?_
   have k6:=B.new (t.trans (s.trans p));have iO:=(t.trans (s.trans p)) _ _ bY;refine !⟨_,!⟨rfl,(by show(0:Int) < 3;decide),zw y6 (by rw [D];exact ji) ⟨r2,_,!⟨rfl,k6.h2.1,zG (by rw [w9];lia),?_⟩⟩⟩⟩;refine⟨_,_,_,_,_,_,_,_,!⟨k6.push2 (x:= [one]) (p _ _ y5) ((B.new t).fresh C) rfl,by rw [zn vW];exact iO,by lia,by lia,by rw [wb,wD];lia⟩⟩
 rintro σ G ⟨a,b,c,y,o5,X,Z,O,N,rfl,k0,sS,la,lb,lc⟩;have vY:a.length<=7:=by lia
 have CV:b.length<=7:=by lia
 have CW:c.length<=7:=by lia
 refine⟨λσ l=>∃(a:List (Addr×List Int)) (y:Option V),σ= [some (.ref cp),some (.int more),some (.ref rp),some (.ref hp),y,o5,X,Z,O,N,none]/\Stk H l rp r0 r1 r2 a b c m.toNat/\l hp=some (.lst ((j9.take m.toNat).map V.str))/\a.length<=60,?_,?_⟩
 ·refine !(!(!⟨cp,!⟨k0.same.seq Y,λl5 ap=> ?_⟩⟩));rw [z2B];refine zc (upd _ l5 _) rfl ap λG1 e1 y1=> ?_
  refine⟨l5,!⟨SqL.of y1,_,!⟨rfl,(by show(0:Int) < 8;decide),rfl,!?_⟩⟩⟩;have u:=k0.new e1;refine yV (λS=> ?_) (λS=> ?_)
  ·refine !⟨more,rfl,by lia,by lia,kJ (lo:=0) (n:=more.toNat) (λi σ l=>∃(a:List (Addr×List Int)) (y:Option V),σ= [some (.ref cp),some (.int more),some (.ref rp),some (.ref hp),y,o5,X,Z,O,N,none]/\Stk H l rp r0 r1 r2 a b c m.toNat/\l hp=some (.lst ((j9.take m.toNat).map V.str))/\a.length<=7 + i) ⟨a,y,rfl,u,e1 _ _ sS,vY⟩ ?_ ?_⟩
   ·rintro i σ G2 hi ⟨a,y,rfl,d,dS,vZ⟩;refine !(zw d.top zD ⟨.inl ⟨rfl,_,SqL.of d.h0.1⟩,!⟨hp,!⟨.inl (SqL.of dS),(m.toNat:Int),Qa (λz:Nat=> [V.int ((z:Nat):Int)]) fW,by lia,by lia,?_⟩⟩⟩);refine z05 (lo:=0) (n:=(m.toNat:Int).toNat) (λj ys H'=>H'=G2/\∃zs:List Int,ys=zs.map V.int/\zs.length=j) ⟨rfl,[],rfl,rfl⟩ ?_ ?_ ?_
    ·rintro j ys l hj ⟨rfl,zs,rfl,I⟩;exact zG (by rw [w9];lia)
    ·rintro j ys l hj ⟨rfl,zs,rfl,I⟩;refine !(!⟨_,!⟨rfl,_,!⟨rfl,(by show(0:Int) < 4;decide),_,!⟨rfl,rfl,ints_snoc I⟩⟩⟩⟩)
    rintro ys l ⟨rfl,zs,rfl,I⟩ tp ax;have nf:=d.fresh ax;refine zc (upd _ tp _) rfl ax λG3 e3 y3=> ?_
    have B:=d.new e3;refine⟨r0,_,!⟨rfl,B.h0.1,zG (by rw [w9];lia),?_⟩⟩;exact⟨_,!⟨B.push0 y3 nf (by rw [I];rfl),by rw [zn sP];exact e3 _ _ dS,by rw [wb,wD];lia⟩⟩
   ·rintro σ G2 ⟨a,y,rfl,d,dS,vZ⟩;exact⟨a,y,rfl,d,dS,by lia⟩
  ·exact⟨a,y,rfl,u,e1 _ _ sS,by lia⟩
 rintro σ G1 ⟨a,y,rfl,u,eY,oR⟩;refine⟨λσ l=>∃(s0 s1 s2:Addr) (a b c:List (Addr×List Int)),σ= [some (.ref cp),some (.int more),some (.ref rp),some (.ref hp),y,o5,X,Z,O,N,none]/\zz H l/\l rp=some (.lst [.ref s0,.ref s1,.ref s2])/\l hp=some (.lst ((j9.take m.toNat).map V.str))/\RowsAt l s0 a/\RowsAt l s1 b/\RowsAt l s2 c/\
  (∀r∈a,r.2.length=m.toNat)/\(∀r∈b,r.2.length=2)/\(∀r∈c,r.2.length=1)/\a.length<=60/\b.length<=10/\c.length<=10,?_,?_⟩
 ·have oS:∃(s0 s1 s2:Addr) (a b c:List (Addr×List Int)),([some (.ref cp),some (.int more),some (.ref rp),some (.ref hp),y,o5,X,Z,O,N,none]:List (Option V))= [some (.ref cp),some (.int more),some (.ref rp),some (.ref hp),y,o5,X,Z,O,N,none]/\zz H G1/\G1 rp=some (.lst [.ref s0,.ref s1,.ref s2])/\G1 hp=some (.lst ((j9.take m.toNat).map V.str))/\RowsAt G1 s0 a/\RowsAt G1 s1 b/\RowsAt G1 s2 c/\
   (∀r∈a,r.2.length=m.toNat)/\(∀r∈b,r.2.length=2)/\(∀r∈c,r.2.length=1)/\a.length<=60/\b.length<=10/\c.length<=10:=
   ⟨r0,r1,r2,a,b,c,rfl,u.same,u.top,eY,u.h0,u.h1,u.h2,u.w0,u.w1,u.w2,oR,by lia,by lia⟩
  refine z7r (z7H oS) (λels=> ?_);refine !⟨cp,!⟨.inl (u.same.seq Y),_,!⟨rfl,!?_⟩⟩⟩;refine yV (λS=> ?_) (λS=>els);have cA:=qi S;rw [eK]at cA;have iP:0 < ns.length:=by lia
  have xa:atI (ns.map V.int) 0=some (.int (ns.getD 0 0)):=zX (j:=0) (int_at iP);have sU:atI (ns.map V.int) (-1)=some (.int (ns.getD (ns.length - 1) 0)):=zcl iP;refine !⟨cp,_,_,!⟨rfl,u.same.seq Y,xa,_,!⟨rfl,(by show(0:Int) < 9;decide),rfl,!?_⟩⟩⟩;refine yV (λhc=> ?_) (λhc=>els);refine⟨z0,λep ak=> ?_⟩;refine zc (upd _ ep _) rfl ak λG2 U y2=> ?_
  generalize ns.getD (ns.length - 1) 0=lst at sU;refine !(!(!⟨cp,_,_,!⟨rfl,(u.same.trans U).seq Y,sU,_,!⟨rfl,(by show(0:Int) < 3;decide),?_⟩⟩⟩));have d:=u.new U;have oT:ep≠rp:=(zy u.top ak).symm;have oU:H rp=none:=s3.free dW;have eN:lst % 3=0\/lst % 3=1\/lst % 3=2:=by lia
  have kp:∀{q:Addr} {rs:List (Addr×List Int)} {o:HO},RowsAt G2 q rs->q≠rp->RowsAt (upd G2 rp o) q rs:=λ{q rs o} h n=>h.kp z2q n λr m z=>by
   have h1:=(h.2 r m).2;rw [z,d.top]at h1;have h2:=Qa (λx=>match x with | some (HO.lst xs)=>xs | _=> []) h1;have D: [V.ref r0,V.ref r1,V.ref r2]=r.2.map V.int:=h2;cases cY:r.2 with
   | nil=>rw [cY]at D;cases D
   | cons x xs=>rw [cY]at D;cases D
  rcases eN with eN | eN | eN
  ·refine⟨rp,_,_,0,rfl,rfl,d.top,by rw [eN];rfl,?_⟩;exact⟨ep,r1,r2,[],b,c,rfl,(d.same).put oU,zj,by rw [zn oQ];exact U _ _ eY,kp (kC y2) oT,kp d.h1 d.np1.symm,kp d.h2 d.np2.symm,λ_ z=>(by cases z),d.w1,d.w2,qY _,by lia,by lia⟩
  ·refine⟨rp,_,_,1,rfl,rfl,d.top,by rw [eN];rfl,?_⟩;exact⟨r0,ep,r2,a,[],c,rfl,(d.same).put oU,zj,by rw [zn oQ];exact U _ _ eY,kp d.h0 d.np0.symm,kp (kC y2) oT,kp d.h2 d.np2.symm,d.w0,λ_ z=>(by cases z),d.w2,oR,qY _,by lia⟩
  ·refine⟨rp,_,_,2,rfl,rfl,d.top,by rw [eN];rfl,?_⟩;exact⟨r0,r1,ep,a,b,[],rfl,(d.same).put oU,zj,by rw [zn oQ];exact U _ _ eY,kp d.h0 d.np0.symm,kp d.h1 d.np1.symm,kp (kC y2) oT,d.w0,d.w1,λ_ z=>(by cases z),oR,by lia,qY _⟩
 rintro σ G2 ⟨s0,s1,s2,a,b,c,rfl,xb,top2,dS,j0,j1,j2,w0,w1,w2,c0,c1,c2⟩;refine !(!(zw top2 zD ⟨(zq rfl),λt0 aw=> ?_⟩));refine zc (upd _ t0 _) rfl aw λG3 e3 y3=> ?_
 refine⟨(zq rfl),λwl aP=> ?_⟩;refine zc (upd _ wl _) rfl aP λG4 e4 y4=> ?_
 refine !(zw (e4 _ _ (e3 _ _ top2)) jc ⟨(zq rfl),λt1 aq=> ?_⟩);refine zc (upd _ t1 _) rfl aq λG5 e5 y5=> ?_
 refine⟨(zq rfl),λmp oE=> ?_⟩;refine zc (upd _ mp _) rfl oE λG6 e6 y6=> ?_
 have sV:=e3.trans (e4.trans (e5.trans e6));refine⟨3,rfl,by decide,by decide,?_⟩;refine z05 (lo:=0) (n:=(3:Int).toNat) (λi ys H'=>zz G6 H'/\∃qs:List (Addr×List Int),ys=refs qs/\qs.length=i/\(∀r∈qs,H' r.1=some (.lst (r.2.map V.int))/\r.2.length=m.toNat)) ⟨zz.refl _,[],rfl,rfl,λ_ z=>(by cases z)⟩ ?_ ?_ ?_
 ·rintro i ys l hi ⟨ar,qs,rfl,lq,hq⟩;exact zG (by rw [w9,lq];exact wV hi (by decide))
 ·rintro i ys l hi ⟨ar,qs,rfl,lq,hq⟩;have xc:=ar _ _ (sV _ _ dS);refine !⟨hp,!⟨.inl (SqL.of xc),(m.toNat:Int),Qa (λz:Nat=> [V.int ((z:Nat):Int)]) fW,by lia,by lia,?_⟩⟩;refine z05 (lo:=0) (n:=(m.toNat:Int).toNat) (λj ys H'=>H'=l/\∃zs:List Int,ys=zs.map V.int/\zs.length=j) ⟨rfl,[],rfl,rfl⟩ ?_ ?_ ?_
  ·rintro j ys l hj ⟨rfl,zs,rfl,I⟩;exact zG (by rw [w9];lia)
  ·rintro j ys l hj ⟨rfl,zs,rfl,I⟩;refine !⟨_,!⟨rfl,.inl ⟨by decide,by decide⟩,!⟨_,!⟨rfl,_,!⟨rfl,(by show(0:Int) < 5;decide),_,!⟨rfl,rfl,ints_snoc I⟩⟩⟩⟩⟩⟩
  ·rintro ys G7 ⟨rfl,zs,rfl,I⟩ lp ae;have n8:=zJ ae (.lst (zs.map V.int));refine⟨ar.trans n8,qs ++ [(lp,zs)],by simp [refs],by rw [wb,lq];rfl,λr mm=> ?_⟩;rcases wx.mp mm with mm | mm
   ·exact⟨n8 _ _ (hq r mm).1,(hq r mm).2⟩
   ·rw [wu.mp mm];exact⟨zj,by rw [I];rfl⟩
 rintro ys G7 ⟨xf,qs,rfl,lq,hq⟩ op ml;refine zc (upd _ op _) rfl ml λG8 e8 y8=> ?_
 have iQ:=xf.trans e8;have oV:=sV.trans iQ;have ro:=kc ml e8 y8 λr mm=>(hq r mm).1
 refine !⟨(zq rfl),λxl ao=> ?_⟩;refine zc (upd _ xl _) rfl ao λG9 e9 y9=> ?_
 refine !(zw (e9 _ _ (oV _ _ top2)) ji ⟨(zq rfl),λt2 bQ=> ?_⟩);refine zc (upd _ t2 _) rfl bQ λaC ad rQ=> ?_
 refine !⟨hp,!⟨.inl (SqL.of (ad _ _ (e9 _ _ (oV _ _ dS)))),λcl bt=> ?_⟩⟩;refine zc (upd _ cl _) rfl bt λaB ag rR=> ?_
 refine !⟨(zq rfl),λt3 mo=> ?_⟩;refine zc (upd _ t3 _) rfl mo λaA R oe=> ?_
 refine⟨(zq rfl),λbp av=> ?_⟩;refine zc (upd _ bp _) rfl av λay M og=> ?_
 have iR:=e9.trans (ad.trans (ag.trans (R.trans M)));refine⟨mp,bp,_,!⟨rfl,iR _ _ (iQ _ _ y6),og,(zq rfl),λam aj=> ?_⟩⟩;refine zc (upd _ am _) rfl aj λaz J oh=> ?_
 have dL:=iR.trans J;have dM:=oV.trans dL;have tok:=tabs_ok (m:=m.toNat) (r0:=a.map (·.2)) (r1:=b.map (·.2)) (r2:=c.map (·.2)) (r3:=qs.map (·.2)) (by lia) (by lia) (λr mm=>by obtain⟨x,hx,rfl⟩:=qA.mp mm;rw [g6];exact w0 x hx) (λr mm=>by obtain⟨x,hx,rfl⟩:=qA.mp mm;exact w1 x hx)
  (λr mm=>by obtain⟨x,hx,rfl⟩:=qA.mp mm;exact w2 x hx) (λr mm=>by obtain⟨x,hx,rfl⟩:=qA.mp mm;rw [g6];exact(hq x hx).2) (by rw [w9];exact c0) (by rw [w9];exact c1) (by rw [w9];exact c2) (by rw [w9,lq];rfl)
 refine fin am _ _ _ (xb.trans dM) tok ⟨.ref t0,.ref t1,.ref t2,.ref t3,oh,⟨t0,hp,s0,a,rfl,?_,?_,j0.same dM,?_⟩,⟨t1,wl,s1,b,rfl,?_,?_,j1.same dM,?_⟩,⟨t2,xl,s2,c,rfl,?_,?_,j2.same dM,?_⟩,⟨t3,cl,op,qs,rfl,?_,?_,ro.same dL,?_⟩⟩
 ·exact(e4.trans (e5.trans (e6.trans (iQ.trans dL)))) _ _ y3
 ·rw [show z1G (j9.take m.toNat) "t"=j9.take m.toNat by unfold z1G;rw [wM (by decide +kernel),wM (by decide +kernel)]];exact dM _ _ dS
 ·unfold z37;rw [wU rfl]
 ·exact(e6.trans (iQ.trans dL)) _ _ y5
 ·rw [show z1G (j9.take m.toNat) "tuvtuvtuvw"=z2o by unfold z1G;rw [wU rfl]];exact(e5.trans (e6.trans (iQ.trans dL))) _ _ y4
 ·unfold z37;rw [wM (by decide +kernel),wU rfl]
 ·exact(ag.trans (R.trans (M.trans J))) _ _ rQ
 ·rw [show z1G (j9.take m.toNat) "tuvtuvtuvx"=(["e"]:List Str) by unfold z1G;rw [wM (by decide +kernel),wU rfl]];exact(ad.trans (ag.trans (R.trans (M.trans J)))) _ _ y9
 ·unfold z37;rw [wM (by decide +kernel),wM (by decide +kernel),wU rfl]
 ·exact(M.trans J) _ _ oe
 ·rw [show z1G (j9.take m.toNat) "tuvz"=j9.take m.toNat by unfold z1G;rw [wM (by decide +kernel),wM (by decide +kernel)]];exact(R.trans (M.trans J)) _ _ rR
 ·unfold z37;rw [wM (by decide +kernel),wM (by decide +kernel),wM (by decide +kernel)]
inductive spTexts (K:W.Frag) (vs:List V) (H:Hp) (Q:VK) (E:XK):Prop
 | mk:∀a b (ss:List Str),vs= [.ref a,.ref b]->H a=some (.lst (ss.map V.str))->SqL K H b (ss.map V.str)->ss.length<=100000->Q (.bl true) H->spTexts K vs H Q E
theorem z2c:FnScope ["_law_found","_law_due","_law_k"] ["_law_found","_law_due"] (zm z1o):=by walk_at "s"
theorem z4U(F:Fun K "_law_texts" "_law_texts" z1o f fd)(T:Txt K mg):FnOk P w K mg base CX0 1 f fd ["_law_found","_law_due"] (spTexts K):=by
 refine F.okB z2c (λvs H Q E h=> ?_) (λvs H Q E h=> ?_)
 ·obtain⟨a,b,ss,rfl,_⟩:=h
  rfl
 obtain⟨a,b,ss,rfl,ha,c,hz,q⟩:=h;intro ac A outer p hr;refine⟨_,(ze (zF (z1Q (yF (jq (zQ j6 rfl T.isinstance wX (zf v0 (zf (yn (v:= .ty "list") rfl T.list qF rfl) zd))))) (cmT z14 (leN T.len (zf v0 zd)) (leN T.len (zf v1 zd))))
   (zh (zt yt))
   zu)
  (ze (foR (yi rfl T.range (zT (leN T.len (zf v1 zd)) zd)) (gnM 2 z2c)
   (zh (zF (z1Q (yF (jq (zQ j6 rfl T.isinstance wX (zl (ixL v0 v2) (zf (yn (v:= .ty "str") rfl T.str qX rfl) zd))))) (cmT z14 (ixL v0 v2) (ixL v1 v2)))
    (zh (zt yt))
    zu)))
  (zh (zt yt)))),?_⟩
 generalize hK0:K=K1
 revert K1
 refine jo (by walk_at "cl") ?_;have hl:(ss.map V.str).length=ss.length:=w9 _;have e: -(2 ^ 62)<=(((ss.map V.str).length:Nat):Int):=by lia
 have j:(((ss.map V.str).length:Nat):Int) < 2 ^ 62:=by rw [hl];lia
 refine !⟨_,_,_,!⟨TyOf.lst ha,jZ,!⟨_,(!⟨a,!⟨.inl (SqL.of ha),!⟨b,!⟨.inl c,rfl,!⟨rfl,rfl⟩⟩⟩⟩⟩),?_⟩⟩⟩;refine ifF (by simp) ?_;refine !⟨b,!⟨.inl c,!⟨e,j,kJ (lo:=0) (n:=(ss.map V.str).length) (λi σ H2=>∃v:Option V,σ= [some (.ref a),some (.ref b),v]/\H2=H) ⟨none,rfl,rfl⟩ ?_ ?_⟩⟩⟩
 ·rintro i σ H2 hi ⟨v,rfl,rfl⟩;have l:i < ss.length:=by rw [hl]at hi;exact hi
  have o:(ss.map V.str)[i]? =some (.str ss[i]):=by
   rw [wO,wa l]
   rfl
  have d:atI (ss.map V.str) (0 + (i:Int))=some (.str ss[i]):=by
   rw [w0D];exact zX o
  refine !(!(zw ha d ⟨_,_,_,!⟨TyOf.str _,jZ,!⟨_,(!(!(zw ha d (!(!⟨b,_,_,!⟨rfl,c,d,rfl,!⟨rfl,rfl⟩⟩⟩))))),?_⟩⟩⟩));refine ifF (by simp) ?_;exact !rfl
 ·rintro σ H2 ⟨v,rfl,rfl⟩;exact q
inductive spWhole (vs:List V) (H:Hp) (Q:VK) (E:XK):Prop
 | mk:∀i,vs= [.int i]->Q (.bl true) H->spWhole vs H Q E
theorem z4X:FnScope ["_law_found"] ["_law_found"] (zm z1d):=by walk_at "s"
theorem z4L(F:Fun K "_law_whole" "_law_whole" z1d f fd)(T:Txt K mg):FnOk P w K mg base CX0 1 f fd ["_law_found"] spWhole:=by
 refine F.okB z4X (λvs H Q E h=> ?_) (λvs H Q E h=> ?_)
 ·obtain⟨i,rfl,_⟩:=h
  rfl
 obtain⟨i,rfl,q⟩:=h;intro ac A outer a hr;refine⟨_,(zh (zt (zbn (zQ j6 rfl T.isinstance wX (zf v0 (zf (yn (v:= .ty "int") rfl T.int PyProof.Rows.boot_int rfl) zd))) (z9K (zQ j6 rfl T.isinstance wX (zf v0 (zf (yn (v:= .ty "bool") rfl T.bool PyProof.Rows.boot_bool rfl) zd))))))),?_⟩;generalize hK0:K=K1
 revert K1
 refine jo (by walk_at "cl") ?_;exact !⟨_,_,_,!⟨TyOf.int i,jZ,!⟨_,(!⟨_,_,_,!⟨TyOf.int i,z5J,!⟨rfl,rfl⟩⟩⟩),q⟩⟩⟩
inductive spNumbers (K:W.Frag) (vs:List V) (H:Hp) (Q:VK) (E:XK):Prop
 | mk:∀a b (ns:List Int),vs= [.ref a,.ref b]->H a=some (.lst (ns.map V.int))->SqL K H b (ns.map V.int)->ns.length<=100000->Q (.bl true) H->spNumbers K vs H Q E
theorem z1x:FnScope ["_law_found","_law_due","_law_k"] ["_law_found","_law_due"] (zm z0u):=by walk_at "s"
theorem z3B(F:Fun K "_law_numbers" "_law_numbers" z0u f fd)(T:Txt K mg)(c:Kn P w K mg base 1 "_law_whole" ["_law_found"] spWhole):FnOk P w K mg base CX0 2 f fd ["_law_found","_law_due"] (spNumbers K):=by
 refine F.okB z1x (λvs H Q E h=> ?_) (λvs H Q E h=> ?_)
 ·obtain⟨a,b,ns,rfl,_⟩:=h
  rfl
 obtain⟨a,b,ns,rfl,ha,d,hz,q⟩:=h;intro ac A outer p hr;refine⟨_,(ze (zF (z1Q (yF (jq (zQ j6 rfl T.isinstance wX (zf v0 (zf (yn (v:= .ty "list") rfl T.list qF rfl) zd))))) (cmT z14 (leN T.len (zf v0 zd)) (leN T.len (zf v1 zd))))
   (zh (zt yt))
   zu)
  (ze (foR (yi rfl T.range (zT (leN T.len (zf v1 zd)) zd)) (gnM 2 z1x)
   (zh (zF (z1Q (yF (jq (zV c hr.m (zl (ixL v0 v2) zd)))) (cmT z14 (ixL v0 v2) (ixL v1 v2)))
    (zh (zt yt))
    zu)))
  (zh (zt yt)))),?_⟩
 generalize hK0:K=K1
 revert K1
 refine jo (by walk_at "cl") ?_;have hl:(ns.map V.int).length=ns.length:=w9 _;have j: -(2 ^ 62)<=(((ns.map V.int).length:Nat):Int):=by lia
 have l:(((ns.map V.int).length:Nat):Int) < 2 ^ 62:=by rw [hl];lia
 refine !⟨_,_,_,!⟨TyOf.lst ha,jZ,!⟨_,(!⟨a,!⟨.inl (SqL.of ha),!⟨b,!⟨.inl d,rfl,!⟨rfl,rfl⟩⟩⟩⟩⟩),?_⟩⟩⟩;refine ifF (by simp) ?_;refine !⟨b,!⟨.inl d,!⟨j,l,kJ (lo:=0) (n:=(ns.map V.int).length) (λi σ H2=>∃v:Option V,σ= [some (.ref a),some (.ref b),v]/\H2=H) ⟨none,rfl,rfl⟩ ?_ ?_⟩⟩⟩
 ·rintro i σ H2 hi ⟨v,rfl,rfl⟩;have o:i < ns.length:=by rw [hl]at hi;exact hi
  have e:atI (ns.map V.int) (0 + (i:Int))=some (.int ns[i]):=by
   rw [w0D];exact zX (by rw [wO,wa o];rfl)
  refine !(!(zw ha e ⟨_,rfl,!⟨_,(!(!(zw ha e (!(!⟨b,_,_,!⟨rfl,d,e,rfl,!⟨rfl,rfl⟩⟩⟩))))),?_⟩⟩));refine ifF (by simp) ?_;exact !rfl
 ·rintro σ H2 ⟨v,rfl,rfl⟩;exact q
inductive spAlike (K:W.Frag) (vs:List V) (H:Hp) (Q:VK) (E:XK):Prop
 | mk:∀a b rs qs,vs= [.ref a,.ref b]->RowsAt H a rs->RowsAt H b qs->rs.map (·.2)=qs.map (·.2)->rs.length<=100000->(∀r∈rs,r.2.length<=100000)->Q (.bl true) H->spAlike K vs H Q E
theorem z2h:FnScope ["_law_found","_law_due","_law_k"] ["_law_found","_law_due"] (zm z1m):=by walk_at "s"
theorem z4J(F:Fun K "_law_alike" "_law_alike" z1m f fd)(T:Txt K mg)(c:Kn P w K mg base 2 "_law_numbers" ["_law_found","_law_due"] (spNumbers K)):FnOk P w K mg base CX0 3 f fd ["_law_found","_law_due"] (spAlike K):=by
 refine F.okB z2h (λvs H Q E h=> ?_) (λvs H Q E h=> ?_)
 ·obtain⟨a,b,rs,qs,rfl,_⟩:=h
  rfl
 obtain⟨a,b,rs,qs,rfl,ha,d,l,hz,r,q⟩:=h;intro ac A outer s hr;refine⟨_,(ze (zF (z1Q (yF (jq (zQ j6 rfl T.isinstance wX (zf v0 (zf (yn (v:= .ty "list") rfl T.list qF rfl) zd))))) (cmT z14 (leN T.len (zf v0 zd)) (leN T.len (zf v1 zd))))
   (zh (zt yt))
   zu)
  (ze (foR (yi rfl T.range (zT (leN T.len (zf v1 zd)) zd)) (gnM 2 z2h)
   (zh (zF (yF (jq (zV c hr.m (zl (ixL v0 v2) (zl (ixL v1 v2) zd)))))
    (zh (zt yt))
    zu)))
  (zh (zt yt)))),?_⟩
 generalize hK0:K=K1
 revert K1
 refine jo (by walk_at "cl") ?_;have p:(refs rs).length=rs.length:=w9 _;have j:(refs qs).length=qs.length:=w9 _;have hl:rs.length=qs.length:=by
  have:=Qa List.length l
  rwa [w9,w9]at this
 refine !⟨_,_,_,!⟨TyOf.lst ha.1,jZ,!⟨_,(!⟨a,!⟨.inl (SqL.of ha.1),!⟨b,!⟨.inl (SqL.of d.1),rfl,!⟨rfl,rfl⟩⟩⟩⟩⟩),?_⟩⟩⟩;refine ifF (by rw [p,j,hl];simp) ?_;refine !⟨b,!⟨.inl (SqL.of d.1),!⟨by lia,by rw [j];lia,kJ (lo:=0) (n:=(refs qs).length) (λi σ H2=>∃v:Option V,σ= [some (.ref a),some (.ref b),v]/\H2=H) ⟨none,rfl,rfl⟩ ?_ ?_⟩⟩⟩
 ·rintro i σ H2 hi ⟨v,rfl,rfl⟩;rw [j]at hi;have e:i < rs.length:=by lia
  have o:rs[i].2=qs[i].2:=by
   have h1:(rs.map (·.2))[i]? =some rs[i].2:=by rw [wO,wa e];rfl
   rw [l,wO,wa hi]at h1;exact(Option.some.inj h1).symm
  refine !(!(zw ha.1 (z68 e) (!(!(zw d.1 (z68 hi) ⟨rs[i].1,qs[i].1,rs[i].2,rfl,(ha.2 _ (wG e)).2,SqL.of (by rw [o];exact(d.2 _ (wG hi)).2),r _ (wG e),!?_⟩)))));refine ifF (by rfl) ?_;exact !rfl
 ·rintro σ H2 ⟨v,rfl,rfl⟩;exact q
structure TxtP(K:W.Frag)(mg:Str->Option Value):Prop where
 set:mg "set"=none
 two:∃a,mg "TWOFOLD"=some (.ref a)/\∀H,SqT K H a [.str "pair",.str "join",.str "both"]
inductive Kid where
 | s (x:Side) | c (x:Cond)
def Kid.At(H:Hp)(k:V×Kid):Prop:=match k.2 with
 | .s x=>k.1=x.v
 | .c x=>zI H x k.1
noncomputable def Kid.cols:Kid->List Str
 | .s x=>x.cols
 | .c x=>x.cols
noncomputable def Kid.size:Kid->Nat
 | .s _=>0
 | .c x=>x.size
theorem z9e{v:V}(h:zI H c v):∃(p:Addr) (w:Str) (ks:List (V×Kid)),v= .ref p/\H p=some (.tup (.str w :: ks.map (·.1)))/\ks.length<=2/\ks≠ []/\(∀k∈ks,Kid.At H k)/\(∀s,s∈c.cols↔∃k∈ks,s∈k.2.cols)/\(ks.map λk=>k.2.size).sum + 1=c.size:=by
 cases c with
 | less a b=>
  obtain⟨p,rfl,h⟩:=h;exact⟨p,_,[(a.v,.s a),(b.v,.s b)],rfl,h,by simp,by simp,by simp [Kid.At],by simp [Cond.cols,Kid.cols],rfl⟩
 | same a b=>
  obtain⟨p,rfl,h⟩:=h;exact⟨p,_,[(a.v,.s a),(b.v,.s b)],rfl,h,by simp,by simp,by simp [Kid.At],by simp [Cond.cols,Kid.cols],rfl⟩
 | no c=>
  obtain⟨p,x,rfl,h,h1⟩:=h;exact⟨p,_,[(x,.c c)],rfl,h,by simp,by simp,by simpa [Kid.At]using h1,by simp [Cond.cols,Kid.cols],rfl⟩
 | an c d=>
  obtain⟨p,x,y,rfl,h,h1,h2⟩:=h;exact⟨p,_,[(x,.c c),(y,.c d)],rfl,h,by simp,by simp,by simpa [Kid.At]using ⟨h1,h2⟩,by simp [Cond.cols,Kid.cols],by simp [Kid.size,Cond.size]⟩
 | or c d=>
  obtain⟨p,x,y,rfl,h,h1,h2⟩:=h;exact⟨p,_,[(x,.c c),(y,.c d)],rfl,h,by simp,by simp,by simpa [Kid.At]using ⟨h1,h2⟩,by simp [Cond.cols,Kid.cols],by simp [Kid.size,Cond.size]⟩
theorem z3b(x:V)(r:List V):z0A (x :: r) (some 1) none=r:=by
 have e:HT.sIx (x :: r).length 0 (some 1)=1:=by
  have e:HT.sIx (x :: r).length 0 (some 1)=min 1 (r.length + 1):=rfl;rw [e]
  lia
 unfold z0A;rw [e]
 show(r.take ((r.length + 1) - 1))=r
 rw [Nat.add_sub_cancel,qB]
theorem z39(x:V)(r:List V):¬(HT.sIx (x :: r).length 0 (some 1)=0/\HT.sIx (x :: r).length (x :: r).length none=(x :: r).length):=by
 rintro⟨h,_⟩;have e:HT.sIx (x :: r).length 0 (some 1)=min 1 (r.length + 1):=rfl;rw [e]at h
 lia
theorem z9D{kvs:List (Key×V)}{v:V}(b:kvs.map (·.1)=ss.map Sum.inr)(nd:ss.Nodup):
  ∃a:List Str,(putK kvs (Sum.inr n) v).map (·.1)=a.map Sum.inr/\a.Nodup/\∀s,s∈a↔s∈ss\/s=n:=by
 have mem:∀s,Sum.inr s∈kvs.map (·.1)↔s∈ss:=λs=>by
  rw [b];simp
 cases e:z27 kvs (Sum.inr n:Key)with
 | some w=>
  have hn:n∈ss:=(mem n).mp (zbk e);refine⟨ss,?_,nd,λs=>⟨.inl,λh=>h.elim id λz=>z ▸ hn⟩⟩;unfold putK;rw [z16,e];rw [Option.isSome_some,wU rfl,w0U,<-b];refine w1a λkv _=> ?_
  show(if kv.1=Sum.inr n then(kv.1,v)else kv).1=kv.1
  split <;> rfl
 | none=>
  have hn:n∉ss:=λz=>zav e ((mem n).mpr z)
  refine⟨ss ++ [n],?_,z8A nd hn,λs=>by simp⟩;rw [zaY v e,wC,b,wC]
  rfl
inductive spCols (K:W.Frag) (vs:List V) (H:Hp) (Q:VK) (E:XK):Prop
 | mk:∀c vc (us:List Str),vs= [vc]->zI H c vc->c.size<=1000->(∀s∈c.cols,s∈us)->us.length<=60->(∀(l:Addr) (ss:List Str) (H':Hp),zz H H'->H' l=some (.lst (ss.map V.str))->ss.Nodup->(∀s,s∈ss↔s∈c.cols)->ss.Pairwise leS->Q (.ref l) H')->spCols K vs H Q E
noncomputable def yB(fs:List (V×Cond)):Nat:=(fs.map λi=>i.2.size).sum
theorem z0Z(a6:List (V×Cond))(i:V×Cond):yB (a6 ++ [i])=yB a6 + i.2.size:=by simp [yB]
theorem z4b:∀a6:List (V×Cond),a6.length<=yB a6
 | []=>ww _
 | i :: r=>by
  have h1:=z4b r;have h2:=i.2.size_pos;have a:yB (i :: r)=i.2.size + yB r:=by simp [yB]
  rw [a,wJ]
  lia
theorem yO:FnScope ["condition","names","waiting","part","inner"] ["condition"] (zm z1k):=by walk_at "s"
theorem z4N(F:Fun K "columns_of" "columns_of" z1k f fd)(T:Txt K mg):FnOk P w K mg base CX0 1 f fd ["condition"] (spCols K):=by
 refine F.okB yO (λvs H Q E h=> ?_) (λvs H Q E h=> ?_)
 ·obtain⟨c,vc,us,rfl,_⟩:=h
  rfl
 obtain⟨c,vc,us,rfl,hc,hz,dt,xh,q⟩:=h;intro ac A outer sh hr;have hu:=z1u hr;refine⟨_,(ze (seT 1 yO zaP)
  (ze (seT 2 yO (zx (zf v0 zd)))
  (ze (z6r (z2H v2 (λ_=>rfl))
   (ze (seT 3 yO (z3i qj QR QS z3e v2))
   (zh (foR (z31 (j8 z0R v3 (jn zb) jx)) (gnM 4 yO)
    (zh (zF (jq (zQ j6 rfl T.isinstance wX (zf v4 (zf (yn (v:= .ty "tuple") rfl T.tuple Qz rfl) zd))))
     (zh (jg (apP v2 (zf v4 zd))))
     (zh (zF (jq (zQ j6 rfl T.isinstance wX (zf v4 (zf (yn (v:= .ty "str") rfl T.str qX rfl) zd))))
      (zh (zbR hu v1 v4 yt rfl))
      zu))))))))
  (zh (zt (zQ (z4P rfl) rfl T.sorted PyProof.Rows.boot_sorted (zO (pv 1) zd))))))),?_⟩
 generalize hK0:K=K1
 revert K1
 refine jo (by walk_at "cl") ?_;refine λd hd=> ?_
 refine !⟨(by show 1<=sizeLine;decide),λwt U=> ?_⟩;have s1:=zJ hd (.dK []);have s2:=zJ U (.lst [vc]);have fw:H wt=none:=s1.free U;have Z:d≠wt:=zy (H:=upd H d (.dK [])) zj U;refine z1E ?_;dsimp only;refine z2D ?_;refine z0H (λm σ H'=>∃(fs:List (V×Cond)) (kvs:List (Key×V)) (ss:List Str) (o3 u:Option V),σ= [some vc,some (.ref d),some (.ref wt),o3,u]/\zz H H'/\H' wt=some (.lst (fs.map (·.1)))/\H' d=some (.dK kvs)/\
   kvs.map (·.1)=ss.map Sum.inr/\ss.Nodup/\(∀g∈fs,zI H g.2 g.1)/\(∀s,s∈c.cols↔s∈ss\/∃g∈fs,s∈g.2.cols)/\m=yB fs/\m<=c.size) c.size
  ⟨[(vc,c)],[],[],none,none,rfl,s1.trans s2,zj,s2 _ _ zj,rfl,List.nodup_nil,by simpa using hc,by simp,by simp [yB],ww _⟩ ?_
 rintro m σ H' ⟨fs,kvs,ss,o3,u,rfl,sH,M,sW,hk,nd,e,mem,rfl,hm⟩;have oX:kvs.length=ss.length:=by
  have:=Qa List.length hk
  rwa [w9,w9]at this
 have sX:∀{ss:List Str},ss.Nodup->(∀s,s∈ss->s∈c.cols)->ss.length<=60:=λnd h=>wV (yY nd λx G=>dt x (h x G)) xh
 refine !⟨_,.inl ⟨_,SqL.of M,rfl⟩,?_⟩;by_cases aq:fs= []
 ·subst aq;refine ifF (by rfl) ?_;have aN:∀s,s∈ss↔s∈c.cols:=λs=>by rw [mem s];simp
  have xi:=sX nd λs h=>(aN s).mp h
  refine !⟨d,kvs,ss,rfl,sW,hk,by lia,λl Y hl pm so=> ?_⟩;exact q l Y _ (sH.trans (zJ hl _)) zj (pm.nodup_iff.mpr nd) (λs=>by rw [pm.mem_iff];exact aN s) (z8U so)
 ·obtain⟨gs,g,rfl⟩:=z3J aq;refine ifT (by simp) ?_;refine⟨_,λσ' H' z=>z,?_⟩;obtain⟨L,b⟩:=g;rw [z0Z]at hm ⊢;replace hm:yB gs + b.size<=c.size:=hm;have hg:zI H b L:=e (L,b) (by simp);have cO:∀g∈gs,zI H g.2 g.1:=λg h=>e g (by simp [h])
  have e1:((gs ++ [(L,b)]).map (·.1))=gs.map (·.1) ++ [L]:=by rw [wC];rfl
  rw [e1]at M;obtain⟨p,word,ks,rfl,hp,dN,CY,oY,fI,xj⟩:=z9e hg;refine !⟨.inl ⟨rfl,_,SqL.of M⟩,wt,ex2 rfl rfl ⟨M,z1V _ _,?_⟩⟩;have eh:upd H' wt (.lst ((gs.map (·.1) ++ [V.ref p]).dropLast))=upd H' wt (.lst (gs.map (·.1))):=by
   rw [w00]
  rw [eh];have X:zz H (upd H' wt (.lst (gs.map (·.1)))):=sH.put fw;have h3:upd H' wt (.lst (gs.map (·.1))) wt=some (.lst (gs.map (·.1))):=zj;have d3:upd H' wt (.lst (gs.map (·.1))) d=some (.dK kvs):=by rw [zn Z];exact sW
  generalize upd H' wt (.lst (gs.map (·.1)))=H3 at X h3 d3 ⊢;refine !(!⟨p,!⟨SqT.of (X _ _ hp),z39 _ _,λt ht=> ?_⟩⟩);rw [z3b];have O:=zJ ht (.tup (ks.map (·.1)));have h4:=O _ _ h3;have d4:=O _ _ d3;have t4:upd H3 t (.tup (ks.map (·.1))) t=some (.tup (ks.map (·.1))):=zj;generalize upd H3 t (.tup (ks.map (·.1)))=H4 at O h4 d4 t4 ⊢;have sY:(ks.map (·.1)).length=ks.length:=w9 _;refine⟨t,rfl,⟨_,SqT.of t4⟩,z5X (K:=K) (a:=t) (xs:=ks.map (·.1)) (λi σ o=>∃(fs:List (V×Cond)) (kvs:List (Key×V)) (ss:List Str) (u:Option V),σ= [some vc,some (.ref d),some (.ref wt),some (.ref p),u]/\zz H o/\o t=some (.tup (ks.map (·.1)))/\o wt=some (.lst (fs.map (·.1)))/\o d=some (.dK kvs)/\
   kvs.map (·.1)=ss.map Sum.inr/\ss.Nodup/\(∀g∈fs,zI H g.2 g.1)/\(∀s,s∈c.cols↔s∈ss\/(∃g∈fs,s∈g.2.cols)\/∃k∈ks.drop i,s∈k.2.cols)/\yB fs + ((ks.drop i).map λk=>k.2.size).sum + 1=yB gs + b.size)
   ⟨gs,kvs,ss,u,rfl,X.trans O,t4,h4,d4,hk,nd,cO,λs=> ?_,by rw [w13];lia⟩ (λi σ o _ ⟨_,_,_,_,_,_,R,_⟩=>SqT.of R) ?_ ?_⟩
  ·rw [mem s,w13];constructor
   ·rintro(h | ⟨g,hg,h⟩)
    ·exact .inl h
    ·rcases wx.mp hg with hg | hg
     ·exact .inr (.inl ⟨g,hg,h⟩)
     ·rw [wu.mp hg]at h;exact .inr (.inr ((fI s).mp h))
   ·rintro(h | ⟨g,hg,h⟩ | h)
    ·exact .inl h
    ·exact .inr ⟨g,qe _ hg,h⟩
    ·exact .inr ⟨(V.ref p,b),by simp,(fI s).mpr h⟩
  ·rintro i x σ o hi ⟨fs,kvs,ss,u,rfl,I,J,r,D,hk,nd,e,mem,C⟩;have S:i < ks.length:=by
    have:=(we.mp hi).1
    rwa [sY]at this
   have G:x=ks[i].1:=by
    rw [wO,wa S]at hi;exact(Option.some.inj hi).symm
   have sZ:ks.drop i=ks[i] :: ks.drop (i + 1):=List.drop_eq_getElem_cons S;have N:=oY ks[i] (wG S);obtain⟨⟨kv,kk⟩,xk⟩:∃k,ks[i]=k:=⟨_,rfl⟩
   rw [xk]at G N sZ;replace G:kv=x:=G.symm;subst G;rw [sZ]at mem C;have oX:kvs.length=ss.length:=by
    have:=Qa List.length hk
    rwa [w9,w9]at this
   have xi:=sX nd λs h=>(mem s).mpr (.inl h)
   have CZ:=z4b fs;have oZ:((kv,kk) :: ks.drop (i + 1)).map (λk=>k.2.size)=kk.size :: (ks.drop (i + 1)).map (λk=>k.2.size):=rfl;rw [oZ,qR]at C;cases kk with
   | c y=>
    have B:zI H y kv:=N
    obtain⟨p2,x2,rfl,bD⟩:=B.ref;refine !⟨_,_,_,!⟨TyOf.tup (I _ _ bD),jZ,!?_⟩⟩;refine z7U ?_;refine !⟨.inl ⟨rfl,_,SqL.of r⟩,!⟨wt,ex2 rfl rfl ⟨r,zG (by rw [w9];lia),?_⟩⟩⟩;have tw:t≠wt:=z5u J r (by intro z;cases z);refine⟨fs ++ [(V.ref p2,y)],kvs,ss,!⟨I.put fw,by rw [zn tw];exact J,by rw [zj,wC];rfl,by rw [zn Z];exact D,hk,nd,λg hg=> ?_,λs=> ?_,?_⟩⟩
    ·rcases wx.mp hg with hg | hg
     ·exact e g hg
     ·rw [wu.mp hg];exact B
    ·rw [mem s];simp only [wE,wx,qf,Qu];constructor
     ·rintro(h | ⟨g,hg,h⟩ | ⟨k,rfl | hk,h⟩)
      ·exact .inl h
      ·exact .inr (.inl ⟨g,.inl hg,h⟩)
      ·exact .inr (.inl ⟨_,.inr rfl,h⟩)
      ·exact .inr (.inr ⟨k,hk,h⟩)
     ·rintro(h | ⟨g,hg | rfl,h⟩ | ⟨k,hk,h⟩)
      ·exact .inl h
      ·exact .inr (.inl ⟨g,hg,h⟩)
      ·exact .inr (.inr ⟨_,.inl rfl,h⟩)
      ·exact .inr (.inr ⟨k,.inr hk,h⟩)
    ·rw [z0Z]
     show yB fs + y.size + _ + 1=_
     have:(Kid.c y).size=y.size:=rfl
     lia
   | s y=>
    cases y with
    | nm n=>
     have B:kv=V.str n:=N
     subst B;refine !⟨_,_,_,!⟨TyOf.str n,z4Y,!?_⟩⟩;refine z7H ?_;refine !⟨_,_,_,!⟨TyOf.str n,jZ,!?_⟩⟩;refine z7U ?_;refine !(!⟨d,!⟨z9P.k (k:=Sum.inr n) D (zG (by lia)),?_⟩⟩);obtain⟨Y,dU,mq,p6⟩:=z9D (n:=n) (v:=V.bl true) hk nd;have td:t≠d:=z5u J D (by intro z;cases z);have fd:H d=none:=hd;refine⟨fs,_,Y,!⟨I.put hd,by rw [zn td];exact J,by rw [zn Z.symm];exact r,zj,dU,mq,e,λs=> ?_,?_⟩⟩
     ·rw [mem s,p6 s];simp only [wE];constructor
      ·rintro(h | h | ⟨k,rfl | hk,h⟩)
       ·exact .inl (.inl h)
       ·exact .inr (.inl h)
       ·exact .inl (.inr (by simpa [Kid.cols,Side.cols]using h))
       ·exact .inr (.inr ⟨k,hk,h⟩)
      ·rintro((h | rfl) | h | ⟨k,hk,h⟩)
       ·exact .inl h
       ·exact .inr (.inr ⟨_,.inl rfl,by simp [Kid.cols,Side.cols]⟩)
       ·exact .inr (.inl h)
       ·exact .inr (.inr ⟨k,.inr hk,h⟩)
     ·have:(Kid.s (.nm n)).size=0:=rfl
      lia
    | nu j=>
     have B:kv=V.int j:=N
     subst B;refine !⟨_,_,_,!⟨TyOf.int j,z51,!?_⟩⟩;refine z7H ?_;refine !⟨_,_,_,!⟨TyOf.int j,z1O,!?_⟩⟩;refine z7H ?_;refine⟨fs,kvs,ss,!⟨I,J,r,D,hk,nd,e,λs=> ?_,?_⟩⟩
     ·rw [mem s];simp only [wE];constructor
      ·rintro(h | h | ⟨k,rfl | hk,h⟩)
       ·exact .inl h
       ·exact .inr (.inl h)
       ·exact absurd h (by simp [Kid.cols,Side.cols])
       ·exact .inr (.inr ⟨k,hk,h⟩)
      ·rintro(h | h | ⟨k,hk,h⟩)
       ·exact .inl h
       ·exact .inr (.inl h)
       ·exact .inr (.inr ⟨k,.inr hk,h⟩)
     ·have:(Kid.s (.nu j)).size=0:=rfl
      lia
  ·rintro σ o ⟨fs,kvs,ss,u,rfl,I,J,r,D,hk,nd,e,mem,C⟩;have iT:ks.drop (ks.map (·.1)).length= []:=by rw [sY,List.drop_length]
   rw [iT]at mem C;replace C:yB fs + 0 + 1=yB gs + b.size:=C;exact⟨yB fs,by show yB fs < yB gs + b.size;lia,fs,kvs,ss,_,!⟨I,r,D,hk,nd,e,λs=>by rw [mem s];simp,rfl,by lia⟩⟩
theorem z9B{n:Nat}(h:n<=9000000):n<=sizeLine:=by
 have:sizeLine=16777216:=QW
 lia
theorem z2S{n:Nat}(h:n<=9000000):n < sizeLine:=by
 have:sizeLine=16777216:=QW
 lia
noncomputable def kids:Qn->List Qn
 | .table _=> []
 | .pick _ q | .cols _ q | .first _ q | .group _ _ _ _ q | .sort _ q=> [q]
 | .pair q r | .join _ _ q r | .both q r=> [q,r]
noncomputable def post:Qn->List Qn
 | .table n=> [.table n]
 | .pick c q=>post q ++ [.pick c q]
 | .cols ns q=>post q ++ [.cols ns q]
 | .pair q r=>post q ++ post r ++ [.pair q r]
 | .join a b q r=>post q ++ post r ++ [.join a b q r]
 | .both q r=>post q ++ post r ++ [.both q r]
 | .first n q=>post q ++ [.first n q]
 | .group a b n s q=>post q ++ [.group a b n s q]
 | .sort a q=>post q ++ [.sort a q]
theorem z0p(q:Qn):post q=(kids q).flatMap post ++ [q]:=by cases q <;> simp [post,kids]
theorem z57(q:Qn):q∈post q:=by rw [z0p];exact wF _ (wu.mpr rfl)
theorem za3{P:Qn->Prop}(hp:∀q,P q->∀k∈kids q,P k)(q:Qn)(h:P q):∀r∈post q,P r:=by
 induction q with
 | table n=>intro r m;rw [wu.mp m];exact h
 | pair q s i j | join _ _ q s i j | both q s i j=>
  intro r m;rcases wx.mp m with m | m
  ·exact(wx.mp m).elim (i (hp _ h _ (.head _)) r) (j (hp _ h _ (.tail _ (.head _))) r)
  ·rw [wu.mp m];exact h
 | pick _ q i | cols _ q i | first _ q i | group _ _ _ _ q i | sort _ q i=>
  intro r m;rcases wx.mp m with m | m
  ·exact i (hp _ h _ (.head _)) r m
  ·rw [wu.mp m];exact h
theorem z70(q:Qn):1<=(post q).length:=by rw [z0p,wb];simp
def yu(H:Hp):List Qn->List V->Prop
 | [],vs=>vs= []
 | q :: qs,vs=>∃v ws,vs=v :: ws/\QAt H q v/\yu H qs ws
theorem yu.same(e:zz H H'):∀{qs:List Qn} {vs:List V},yu H qs vs->yu H' qs vs
 | [],_,h=>h
 | _ :: _,_,⟨v,ws,a,h1,h2⟩=>⟨v,ws,a,h1.same e,h2.same e⟩
def yu.mono(t:∀b xs,H b=some (.tup xs)->H' b=some (.tup xs)):∀{qs:List Qn} {vs:List V},yu H qs vs->yu H' qs vs
 | [],_,h=>h
 | _ :: _,_,⟨v,ws,a,h1,h2⟩=>⟨v,ws,a,h1.mono t,h2.mono t⟩
theorem yu.len:∀{qs:List Qn} {vs:List V},yu H qs vs->vs.length=qs.length
 | [],_,h=>by rw [show _= []from h];rfl
 | _ :: qs,_,⟨v,ws,a,h1,h2⟩=>by rw [a,wJ,wJ,h2.len]
theorem yu.app:∀{qs rs:List Qn} {vs ws:List V},yu H qs vs->yu H rs ws->yu H (qs ++ rs) (vs ++ ws)
 | [],_,_,_,h,g=>by rw [show _= []from h];exact g
 | _ :: _,_,_,_,⟨v,us,a,h1,h2⟩,g=>⟨v,us ++ _,by rw [a];rfl,h1,h2.app g⟩
theorem yu.rev:∀{qs:List Qn} {vs:List V},yu H qs vs->yu H qs.reverse vs.reverse
 | [],_,h=>by rw [show _= []from h];rfl
 | q :: qs,_,⟨v,us,a,h1,h2⟩=>by
  rw [a,QM,QM];exact h2.rev.app ⟨v,[],rfl,h1,rfl⟩
theorem yu.at:∀{qs:List Qn} {vs:List V} {i:Nat} {q:Qn},yu H qs vs->qs[i]? =some q->∃v,vs[i]? =some v/\QAt H q v
 | q :: qs,_,0,_,⟨v,us,a,h1,h2⟩,e=>by cases e;exact⟨v,by rw [a];rfl,h1⟩
 | q :: qs,_,i + 1,_,⟨v,us,a,h1,h2⟩,e=>by
  obtain⟨u,b,z⟩:=h2.at (i:=i) (by simpa using e);exact⟨u,by rw [a];simpa using b,z⟩
theorem yu.at':∀{qs:List Qn} {vs:List V} {i:Nat} {v:V},yu H qs vs->vs[i]? =some v->∃q,qs[i]? =some q/\QAt H q v
 | [],_,i,v,h,e=>by rw [show _= []from h]at e;cases e
 | q :: qs,_,0,_,⟨v,us,a,h1,h2⟩,e=>by rw [a]at e;cases e;exact⟨q,rfl,h1⟩
 | q :: qs,_,i + 1,_,⟨v,us,a,h1,h2⟩,e=>by
  rw [a]at e;obtain⟨u,b,z⟩:=h2.at' (i:=i) (by simpa using e);exact⟨u,by simpa using b,z⟩
inductive spWithin (K:W.Frag) (vs:List V) (H:Hp) (Q:VK) (E:XK):Prop
 | mk:∀v q,vs= [v]->QAt H q v->(∀(l:Addr) (kv:List V) (H':Hp),zz H H'->H l=none->H' l=some (.lst kv)->yu H' (kids q) kv->Q (.ref l) H')->spWithin K vs H Q E
noncomputable def zec:List V:= [.str "pair",.str "join",.str "both"]
theorem zcz{v:V}(h:QAt H q v):(∃n p,q= .table n/\v= .ref p/\H p=some (.tup [.str "table",.str n]))\/
  (∃r p w xs y,kids q= [r]/\v= .ref p/\H p=some (.tup (.str w :: (xs ++ [y])))/\QAt H r y/\inV (.str w) zec=false/\w≠"table")\/
  (∃r s p w xs x y,kids q= [r,s]/\v= .ref p/\H p=some (.tup (.str w :: (xs ++ [x,y])))/\QAt H r x/\QAt H s y/\inV (.str w) zec=true/\w≠"table"):=by
 cases q with
 | table n=>obtain⟨p,e,h⟩:=h;exact .inl ⟨n,p,rfl,e,h⟩
 | pick c r=>obtain⟨p,x,y,e,h,_,h2⟩:=h;exact .inr (.inl ⟨r,p,"pick",[x],y,rfl,e,h,h2,by decide +kernel,by decide +kernel⟩)
 | cols ns r=>obtain⟨p,x,y,e,h,_,h2⟩:=h;exact .inr (.inl ⟨r,p,"cols",[.ref x],y,rfl,e,h,h2,by decide +kernel,by decide +kernel⟩)
 | pair r s=>obtain⟨p,x,y,e,h,h1,h2⟩:=h;exact .inr (.inr ⟨r,s,p,"pair",[],x,y,rfl,e,h,h1,h2,by decide +kernel,by decide +kernel⟩)
 | join a b r s=>obtain⟨p,x,y,e,h,h1,h2⟩:=h;exact .inr (.inr ⟨r,s,p,"join",[.str a,.str b],x,y,rfl,e,h,h1,h2,by decide +kernel,by decide +kernel⟩)
 | both r s=>obtain⟨p,x,y,e,h,h1,h2⟩:=h;exact .inr (.inr ⟨r,s,p,"both",[],x,y,rfl,e,h,h1,h2,by decide +kernel,by decide +kernel⟩)
 | first n r=>obtain⟨p,y,e,h,h2⟩:=h;exact .inr (.inl ⟨r,p,"first",[.int n],y,rfl,e,h,h2,by decide +kernel,by decide +kernel⟩)
 | group a b n s r=>obtain⟨p,y,e,h,h2⟩:=h;exact .inr (.inl ⟨r,p,"group",[.str a,.str b,.str n,.str s],y,rfl,e,h,h2,by decide +kernel,by decide +kernel⟩)
 | sort a r=>obtain⟨p,y,e,h,h2⟩:=h;exact .inr (.inl ⟨r,p,"sort",[.str a],y,rfl,e,h,h2,by decide +kernel,by decide +kernel⟩)
def zaM(v:V)(xs:List V)(y:V):atI (v :: (xs ++ [y])) (-1)=some y:=z77 (v :: xs) y
theorem zdn(v:V)(xs:List V)(x y:V):atI (v :: (xs ++ [x,y])) (-2)=some x:=by
 have e:v :: (xs ++ [x,y])=(v :: xs) ++ [x,y]:=rfl;rw [e];generalize v :: xs=l;unfold atI ixN;rw [wM (by decide),wU (by rw [wb];simp;lia)];have h1:((((l ++ [x,y]).length:Nat):Int) + (-2)).toNat=l.length:=by rw [wb];simp;lia
 simp only [Option.bind_some]
 first | rw [h1] | (rw [show((-2:Int) + (((l ++ [x,y]).length:Nat):Int)).toNat=l.length by rw [wb];simp;lia])
 simp
theorem z2m:FnScope ["question"] ["question"] (zm kE):=by walk_at "s"
theorem z2w(F:Fun K "straight_within" "straight_within" kE f fd)(T:Txt K mg)(R:TxtP K mg):FnOk P w K mg base CX0 1 f fd ["question"] (spWithin K):=by
 refine F.okB z2m (λvs H Q E h=> ?_) (λvs H Q E h=> ?_)
 ·obtain⟨v,q,rfl,_⟩:=h
  rfl
 obtain⟨v,q,rfl,hq,fin⟩:=h;obtain⟨b,d,c⟩:=R.two;intro ac A outer e hr;refine⟨_,(ze (zF (cmT zK (ixT v0 zb) zi)
   (zh (zt (zx zd)))
   zu)
  (ze (zF (jR jO (ixT v0 zb) (zbv (v:= .ref b) rfl d rfl) (by with_unfolding_all rfl))
   (zh (zt (zx (zl (ixT v0 (k8 yl zb)) (zl (ixT v0 (k8 yl zb)) zd)))))
   zu)
  (zh (zt (zx (zl (ixT v0 (k8 yl zb)) zd)))))),?_⟩
 generalize hK0:K=K1
 revert K1
 refine jo (by walk_at "cl") ?_;have l0:∀n:Nat,n<=10->n<=sizeLine:=λn h=>ja (by lia)
 rcases zcz hq with⟨n,p,rfl,rfl,hp⟩ | ⟨r,p,w,xs,y,hk,rfl,hp,hy,aQ,hw⟩ | ⟨r,s,p,w,xs,x,y,hk,rfl,hp,hx,hy,aQ,hw⟩
 ·refine !(zg hp zD ⟨rfl,!?_⟩);refine ifT (by rw [zW];decide +kernel) ?_;refine⟨l0 0 (by decide),λl hl=> ?_⟩;refine zc (upd _ l _) rfl hl λH1 a x1=> ?_
  exact fin l _ H1 a hl x1 rfl
 ·refine !(zg hp zD ⟨rfl,!?_⟩);refine ifF (by rw [zW];exact wI hw) ?_;refine !(zg hp zD ⟨b,!⟨.inr (c H),rfl,rfl,!?_⟩⟩);refine ifF aQ ?_;refine !(!(zg hp (zaM _ _ _) ⟨l0 1 (by decide),λl hl=> ?_⟩));refine zc (upd _ l _) rfl hl λH1 a x1=> ?_
  exact fin l _ H1 a hl x1 (by rw [hk];exact⟨y,[],rfl,hy.same a,rfl⟩)
 ·refine !(zg hp zD ⟨rfl,!?_⟩);refine ifF (by rw [zW];exact wI hw) ?_;refine !(zg hp zD ⟨b,!⟨.inr (c H),rfl,rfl,!?_⟩⟩);refine ifT aQ ?_;refine !(!(zg hp (zdn _ _ _ _) (!(!(zg hp (by have:=zaM (.str w) (xs ++ [x]) y;rwa [Q9]at this) ⟨l0 2 (by decide),λl hl=> ?_⟩)))));refine zc (upd _ l _) rfl hl λH1 a x1=> ?_
  exact fin l _ H1 a hl x1 (by rw [hk];exact⟨x,[y],rfl,hx.same a,y,[],rfl,hy.same a,rfl⟩)
theorem z5L{l:Addr}(h:H l=some (.lst xs)):∀b ys,H b=some (.tup ys)->upd H l o b=some (.tup ys):=λb ys e=>by
 rw [zn (z5u e h (by intro z;cases z))];exact e
noncomputable abbrev pre(r:Qn):List Qn:=(post r).reverse
theorem zaw(r:Qn):pre r=r :: (kids r).reverse.flatMap pre:=by
 unfold pre;rw [z0p,List.reverse_append,List.reverse_flatMap]
 rfl
noncomputable def wtL(ws:List Qn):Nat:=(ws.map λr=>(post r).length).sum
theorem z8m(a b:List Qn):wtL (a ++ b)=wtL a + wtL b:=by unfold wtL;rw [wC,List.sum_append]
theorem z5E:∀ws:List Qn,ws.length<=wtL ws
 | []=>ww _
 | q :: ws=>by
  have:=z5E ws;have:=z70 q
  show ws.length + 1<=(post q).length + wtL ws
  lia
theorem z7Y:∀ws:List Qn,(ws.reverse.flatMap pre).length=wtL ws
 | []=>rfl
 | q :: ws=>by
  rw [QM,w0H,wb,z7Y ws]
  show wtL ws + (pre q ++ []).length=(post q).length + wtL ws
  rw [Qb,w0g,Nat.add_comm]
theorem zaN(r:Qn):(post r).length=wtL (kids r) + 1:=by
 rw [z0p,wb,List.length_flatMap]
 rfl
theorem yu.snoc:∀{qs:List Qn} {vs:List V},yu H qs vs->vs≠ []->∃gs g ws v,qs=gs ++ [g]/\vs=ws ++ [v]/\yu H gs ws/\QAt H g v
 | [],_,h,n=>absurd h n
 | [q],_,⟨v,us,a,h1,h2⟩,_=>⟨[],q,[],v,rfl,by rw [a,show us= []from h2];rfl,rfl,h1⟩
 | q :: r :: qs,_,⟨v,us,a,h1,h2⟩,_=>by
  obtain⟨gs,g,ws,v',b,d,e,c⟩:=h2.snoc (by intro z;have:=h2.len;rw [z]at this;cases this);exact⟨q :: gs,g,v :: ws,v',by rw [b];rfl,by rw [a,d];rfl,⟨v,ws,rfl,h1,e⟩,c⟩
inductive spInner (K:W.Frag) (vs:List V) (H:Hp) (Q:VK) (E:XK):Prop
 | mk:∀v q,vs= [v]->QAt H q v->(post q).length<=8000000->(∀(l:Addr) (kv:List V) (H':Hp),zz H H'->H l=none->H' l=some (.lst kv)->yu H' (post q) kv->Q (.ref l) H')->spInner K vs H Q E
theorem kz:FnScope ["question","places","waiting","place"] ["question"] (zm z0S):=by walk_at "s"
theorem z4c(F:Fun K "inner_first" "inner_first" z0S f fd)(T:Txt K mg)(a:Kn P w K mg base 1 "straight_within" ["question"] (spWithin K)):FnOk P w K mg base CX0 2 f fd ["question"] (spInner K):=by
 refine F.okB kz (λvs H Q E h=> ?_) (λvs H Q E h=> ?_)
 ·obtain⟨v,q,rfl,_⟩:=h
  rfl
 obtain⟨v,q,rfl,hq,hsz,fin⟩:=h;intro ac A outer sh hr;refine⟨_,(ze (seT 1 kz (zx zd))
  (ze (seT 2 kz (zx (zf v0 zd)))
  (ze (z6r (z2H v2 (λ_=>rfl))
   (ze (seT 3 kz (z3i qj QR QS z3e v2))
   (ze (jg (apP v1 (zf v3 zd)))
   (zh (jg (z1v qj PySem.F.slot_list_extend PySem.F.type_list_extend z96 v2 (zT (zV a hr.m (zf v3 zd)) zd)))))))
  (zh (zt (z7x rfl rfl T.list rfl T.reversed v1)))))),?_⟩
 generalize hK0:K=K1
 revert K1
 refine jo (by walk_at "cl") ?_;refine⟨(zq rfl),λb j=> ?_⟩;refine zc (upd _ b _) rfl j λH1 n1 x1=> ?_
 refine !⟨(zq rfl),λc D=> ?_⟩;have J:b≠c:=zy x1 D;have iz:H c=none:=n1.free D;refine zc (upd _ c _) rfl D λH2 n2 x2=> ?_
 have s2:=n1.trans n2;refine z1E ?_;dsimp only;refine z2D ?_;refine z0H (λm σ H'=>∃(ps ws:List Qn) (pv s:List V) (X:Option V),m=wtL ws/\σ= [some v,some (.ref b),some (.ref c),X]/\zz H H'/\H' b=some (.lst pv)/\H' c=some (.lst s)/\yu H' ps pv/\yu H' ws s/\ps ++ ws.reverse.flatMap pre=pre q) (wtL [q])
  ⟨[],[q],[],[v],none,rfl,rfl,s2,n2 _ _ x1,x2,rfl,⟨v,[],rfl,hq.same s2,rfl⟩,by simp⟩ ?_
 rintro m σ x ⟨ps,ws,pv,s,X,rfl,rfl,C,U,r,Y,Z,n⟩;have hlen:ps.length + wtL ws=(post q).length:=by
  have:=Qa List.length n;rw [wb,z7Y,w0g]at this;exact this
 refine !⟨_,.inl ⟨_,SqL.of r,rfl⟩,?_⟩;by_cases aq:s= []
 ·subst aq;refine ifF (by rfl) ?_;have y:ws= []:=QA.mp Z.len.symm;subst y;have ep:ps=pre q:=by simpa using n
  refine !⟨b,!⟨SqL.of U,λl hl=> ?_⟩⟩;refine zc (upd _ l _) rfl hl λe S x4=> ?_
  refine fin l _ e (C.trans S) (C.free hl) x4 ?_;have:=(Y.same S).rev;rw [ep,List.reverse_reverse]at this;exact this
 ·obtain⟨gs,g,us,d,rfl,rfl,qg,hg⟩:=Z.snoc aq;refine ifT (by simp) ?_;refine⟨_,λσ' H' z=>z,?_⟩;refine !⟨.inl ⟨rfl,_,SqL.of r⟩,c,_,d,rfl,rfl,r,z1V _ _,?_⟩;rw [w00];have t:=z5L (o:= .lst us) r;have s4:zz H (upd x c (.lst us)):=C.put iz;have u:upd x c (.lst us) b=some (.lst pv):=(zn J).trans U;have t9:upd x c (.lst us) c=some (.lst us):=zj;have L:=Y.mono t;have B:=qg.mono t;have I:=hg.mono t;generalize upd x c (.lst us)=e at t s4 u t9 L B I ⊢;have y:wtL (gs ++ [g])=wtL gs + (post g).length:=by rw [z8m];rfl
  rw [y]at hlen;have lp:=L.len;have lg:=B.len;have lw:=z5E gs;have lk:=z5E (kids g);have xn:=zaN g;refine !⟨.inl ⟨rfl,_,SqL.of u⟩,!⟨b,ex2 rfl rfl ⟨u,z2S (by lia),?_⟩⟩⟩;have p:=z5L (o:= .lst (pv ++ [d])) u;have s5:zz H (upd e b (.lst (pv ++ [d]))):=s4.put j;have M:upd e b (.lst (pv ++ [d])) b=some (.lst (pv ++ [d])):=zj;have G:upd e b (.lst (pv ++ [d])) c=some (.lst us):=(zn J.symm).trans t9;have tj:yu (upd e b (.lst (pv ++ [d]))) (ps ++ [g]) (pv ++ [d]):=(L.mono p).app ⟨d,[],rfl,I.mono p,rfl⟩;have tz:=B.mono p;have R:=I.mono p;generalize upd e b (.lst (pv ++ [d]))=H5 at s5 M G tj tz R ⊢;refine !⟨.inl ⟨rfl,_,SqL.of G⟩,!⟨_,g,rfl,R,λl kv H6 i fl x6 O=> ?_⟩⟩;have N:=i _ _ G;have tF:=O.len;refine⟨c,l,ex2 rfl rfl ⟨N,x6,z9B (by lia),?_⟩⟩;have tG:=z5L (o:= .lst (us ++ kv)) N;refine⟨wtL (gs ++ kids g),by rw [y,z8m];lia,ps ++ [g],gs ++ kids g,pv ++ [d],us ++ kv,!⟨rfl,(s5.trans i).put iz,by rw [zn J];exact i _ _ M,zj,(tj.same i).mono tG,((tz.same i).app O).mono tG,?_⟩⟩;rw [List.reverse_append]at n;rw [List.reverse_append,w0H,<-n]
  show ps ++ [g] ++ _=ps ++ ([g] ++ gs.reverse).flatMap pre
  rw [w0H,w0B,zaw g];simp
def Nt(H H':Hp):Prop:=∀b o,H b=some o->(∀ps,o≠ .tbl ps)->H' b=some o
def Nt.refl(H:Hp):Nt H H:=λ_ _ e _=>e
theorem Nt.trans(a:Nt H H1)(b:Nt H1 H2):Nt H H2:=λx o e n=>b x o (a x o e n) n
def Nt.of(h:zz H H'):Nt H H':=λb o e _=>h b o e
theorem Nt.lst{H H':Hp}{b:Addr}{xs:List V}(h:Nt H H')(e:H b=some (.lst xs)):H' b=some (.lst xs):=h b _ e λ_ z=>by cases z
theorem Nt.tup{H H':Hp}{b:Addr}{xs:List V}(h:Nt H H')(e:H b=some (.tup xs)):H' b=some (.tup xs):=h b _ e λ_ z=>by cases z
theorem z5V{a b:HO}:upd (upd H d a) d b=upd H d b:=by
 funext x
 by_cases e:x=d
 ·subst e;rw [zj,zj]
 ·rw [zn e,zn e,zn e]
theorem z6p{c:Addr}{a b:HO}(n:c≠d):upd (upd H d a) c b=upd (upd H c b) d a:=by
 funext x
 by_cases e:x=d
 ·subst e;rw [zn n.symm,zj,zj]
 ·rw [zn (H:=upd H c b) e];by_cases e2:x=c
  ·subst e2;rw [zj,zj]
  ·rw [zn e2,zn e2,zn e]
theorem zaZ(h:H d=some o):upd H d o=H:=by
 funext x
 by_cases e:x=d
 ·subst e;rw [zj,h]
 ·rw [zn e]
theorem z6C(h:zz H H2)(hd:H d=none):zz H (hid H2 d):=λb o e=>by
 rw [jt (λz=>by rw [z,hd]at e;cases e)];exact h b o e
theorem z8j(h:H d=some o):upd (hid H d) d o=H:=by
 funext x
 by_cases e:x=d
 ·subst e;rw [zj,h]
 ·rw [zn e,jt e]
def z1p(Res:Qn->V->Hp->Prop)(H:Hp):List Qn->List V->Prop
 | [],vs=>vs= []
 | q :: qs,vs=>∃v ws,vs=v :: ws/\Res q v H/\z1p Res H qs ws
section
variable{Res:Qn->V->Hp->Prop}
def z1p.imp(h:∀r u,Res r u H->Res r u H'):∀{qs:List Qn} {vs:List V},z1p Res H qs vs->z1p Res H' qs vs
 | [],_,z=>z
 | _ :: _,_,⟨v,ws,a,h1,h2⟩=>⟨v,ws,a,h _ _ h1,h2.imp h⟩
theorem z1p.len:∀{qs:List Qn} {vs:List V},z1p Res H qs vs->vs.length=qs.length
 | [],_,h=>by rw [show _= []from h];rfl
 | _ :: qs,_,⟨v,ws,a,h1,h2⟩=>by rw [a,wJ,wJ,h2.len]
theorem z1p.app:∀{qs rs:List Qn} {vs ws:List V},z1p Res H qs vs->z1p Res H rs ws->z1p Res H (qs ++ rs) (vs ++ ws)
 | [],_,_,_,h,g=>by rw [show _= []from h];exact g
 | _ :: _,_,_,_,⟨v,us,a,h1,h2⟩,g=>⟨v,us ++ _,by rw [a];rfl,h1,h2.app g⟩
theorem z1p.cut:∀{qs rs:List Qn} {vs ws:List V},z1p Res H (qs ++ rs) (vs ++ ws)->vs.length=qs.length->z1p Res H qs vs/\z1p Res H rs ws
 | [],_,vs,_,h,e=>by
  have:vs= []:=QA.mp e;subst this;exact⟨rfl,h⟩
 | _ :: _,_,[],_,_,e=>by cases e
 | q :: qs,rs,v :: vs,ws,⟨u,us,c,h1,h2⟩,e=>by
  obtain⟨rfl,rfl⟩:=List.cons.inj c;obtain⟨a,b⟩:=h2.cut (by simpa using e);exact⟨⟨v,vs,rfl,h1,a⟩,b⟩
end
inductive Runs:List Qn->List Qn->List Qn->Prop
 | nil (S:List Qn):Runs S [] S
 | cons {S:List Qn} {r:Qn} {l S':List Qn}:Runs (S ++ [r]) l S'->Runs (S ++ kids r) (r :: l) S'
variable{l:List Qn}
theorem Runs.app{b d a c:List Qn}(h:Runs b l d)(g:Runs d a c):Runs b (l ++ a) c:=by
 induction h with
 | nil S=>exact g
 | cons h e=>exact .cons (e g)
theorem jX:∀(q:Qn) (S:List Qn),Runs S (post q) (S ++ [q])
 | .table n,S=>by have:=Runs.cons (S:=S) (r:= .table n) (.nil (S ++ [.table n]));simpa [kids,post]using this
 | .pick c q,S=>(jX q S).app (.cons (r:= .pick c q) (.nil _))
 | .cols ns q,S=>(jX q S).app (.cons (r:= .cols ns q) (.nil _))
 | .pair q r,S=>((jX q S).app (jX r _)).app (by rw [Q9];exact .cons (r:= .pair q r) (.nil _))
 | .join a b q r,S=>((jX q S).app (jX r _)).app (by rw [Q9];exact .cons (r:= .join a b q r) (.nil _))
 | .both q r,S=>((jX q S).app (jX r _)).app (by rw [Q9];exact .cons (r:= .both q r) (.nil _))
 | .first n q,S=>(jX q S).app (.cons (r:= .first n q) (.nil _))
 | .group a b n s q,S=>(jX q S).app (.cons (r:= .group a b n s q) (.nil _))
 | .sort a q,S=>(jX q S).app (.cons (r:= .sort a q) (.nil _))
theorem Runs.inv{S S':List Qn}(h:Runs S (r :: l) S'):∃a,S=a ++ kids r/\Runs (a ++ [r]) l S':=by
 cases h with
 | cons h=>exact !h
def z8I(P:Program)(w:World)(K:W.Frag)(mg:Str->Option Value)(base:Heap)(k:Nat):SpS:=λouter s vs H Q E=>∃(v:V) (q:Qn) (lf:Addr) (b:Sp) (Ok:Hp->Prop) (Res:Qn->V->Hp->Prop),
 vs= [v,.ref lf]/\QAt H q v/\(post q).length<=8000000/\WorkOk P w K mg base CX0 k (frs outer) H s lf b/\Ok H/\(∀H1 H2,zz H1 H2->Ok H1->Ok H2)/\(∀r u H1 H2,Nt H1 H2->Res r u H1->Res r u H2)/\
 (∀r∈post q,∀(c:V) (wl:Addr) (ws:List V) (H1:Hp) (a:VK),Nt H H1->Ok H1->QAt H1 r c->H1 wl=some (.lst ws)->z1p Res H1 (kids r) ws->(∀v' H2,Nt H1 H2->Ok H2->Res r v' H2->a v' H2)->b [c,.ref wl] H1 a E0)/\
 ∀v' H',Nt H H'->Ok H'->Res q v' H'->Q v' H'
theorem z04:FnScope ["question","work","done","place","within","inner"] ["question","work"] (zm z2r):=by walk_at "s"
theorem z6n{k:Nat}(dN:2<=k)(F:Fun K "built_up" "built_up" z2r f fd)(T:Txt K mg)(c:Kn P w K mg base 2 "inner_first" ["question"] (spInner K))(a:Kn P w K mg base 1 "straight_within" ["question"] (spWithin K)):FnOkS P w K mg base CX0 (k + 1) f fd ["question","work"] (z8I P w K mg base k):=by
 refine F.okS0 z04 (λouter s vs H Q E h=> ?_) (λac A outer s H vs Q E hr h=> ?_)
 ·obtain⟨v,q,lf,mB,Ok,Res,rfl,_⟩:=h
  rfl
 obtain⟨v,q,lf,mB,Ok,Res,rfl,hq,hsz,W,iU,okS,g9,work,fin⟩:=h;refine⟨_,(ze (seT 2 z04 (zx zd))
  (ze (foR (jb (zV c hr.m (zf v0 zd))) (gnM 3 z04)
   (ze (seT 4 z04 (zx zd))
   (ze (foR (jb (zV a hr.m (zf v3 zd))) (gnM 5 z04)
    (zh (jg (z1v qj PySem.F.slot_list_insert PySem.F.type_list_insert z9q v4 (zo zb (zT (z3i qj QR QS z3e v2) zd))))))
   (zh (jg (apP v2 (zT (z9w (i:=1) W z3t rfl hr rfl (QV rfl) (zf (pv 3) (zf (pv 4) zd))) zd)))))))
  (zh (zt (ixL v2 zb))))),?_⟩
 generalize hK0:K=K1
 revert K1
 refine jo (by walk_at "cl") ?_;refine⟨(zq rfl),λdn Z=> ?_⟩;refine !⟨v,q,rfl,hq.mono λb xs e=>by rw [zn (zy e Z)];exact e,hsz,λl kv H2 n2 fl x2 B=> ?_⟩;have s1:zz H (upd H dn (.lst [])):=zJ Z _;have d2:H2 dn=some (.lst []):=n2 _ _ zj;have tH:l≠dn:=λz=>by rw [z,zj]at fl;cases fl
 have g2:zz H (hid H2 dn):=z6C (s1.trans n2) Z;have aF:hid H2 dn l=some (.lst kv):=(jt tH).trans x2;have xo:∀b xs,H2 b=some (.tup xs)->hid H2 dn b=some (.tup xs):=λb xs e=>by rw [jt (z5u e d2 (by intro z;cases z))];exact e
 have tF:=B.len;refine⟨l,rfl,⟨_,SqL.of x2⟩,km (xs:=kv) (λi σ H'=>∃(G:Hp) (S:List Qn) (ds:List V) (O U n:Option V),σ= [some v,some (.ref lf),some (.ref dn),O,U,n]/\H'=upd G dn (.lst ds)/\G dn=none/\Nt H G/\Ok G/\G l=some (.lst kv)/\yu G (post q) kv/\z1p Res G S ds/\Runs S ((post q).drop i) [q]/\S.length<=i)
  ⟨hid H2 dn,[],[],none,none,none,rfl,(z8j d2).symm,yE,Nt.of g2,okS _ _ g2 iU,aF,B.mono xo,rfl,by have:=jX q [];simpa using this,ww _⟩ ?_ ?_ ?_⟩
 ·rintro i σ H' _ ⟨G,S,ds,O,U,n,rfl,rfl,L,nt,M,gl,_⟩;exact SqL.of (by rw [zn tH];exact gl)
 ·rintro i N σ H' hi ⟨G,S,ds,O,U,n,rfl,rfl,L,nt,M,gl,pi,rs,run,hS⟩;obtain⟨r,ci,mD⟩:=pi.at' hi;have g7:i < (post q).length:=(we.mp ci).1;have az:(post q)[i]=r:=(we.mp ci).2;rw [List.drop_eq_getElem_cons g7,az]at run;obtain⟨S0,rfl,run'⟩:=run.inv;have aN:r∈post q:=qD ci;refine⟨(zq rfl),λwl J=> ?_⟩;have t:wl≠dn:=λz=>by rw [z,zj]at J;cases J
  have gw:G wl=none:=by rw [zn t]at J;exact J
  rw [z6p t];have n1:zz G (upd G wl (.lst [])):=zJ gw _;have w1:upd G wl (.lst []) wl=some (.lst []):=zj;have d1:upd G wl (.lst []) dn=none:=by rw [zn t.symm];exact L
  generalize upd G wl (.lst [])=G1 at n1 w1 d1 ⊢;have pq:QAt (upd G1 dn (.lst ds)) r N:=(mD.same n1).mono λb xs e=>by rw [zn (zy e d1)];exact e
  refine !⟨N,r,rfl,pq,λsl kk x n4 p x4 qk=> ?_⟩;have d4:x dn=some (.lst ds):=n4 _ _ zj;have pz:sl≠dn:=λz=>by rw [z,zj]at p;cases p
  have e4:upd (hid x dn) dn (.lst ds)=x:=z8j d4;have X:zz G1 (hid x dn):=z6C ((zJ d1 _).trans n4) d1;have Y:hid x dn sl=some (.lst kk):=(jt pz).trans x4;have tI:hid x dn dn=none:=yE;rw [<-e4];generalize hid x dn=G4 at X Y tI ⊢;have w4:=X _ _ w1;have xp:sl≠wl:=λz=>by
   have:=X _ _ w1;rw [z,zn t,w1]at p;cases p
  have xn:=qk.len;have iG:=rs.len;rw [wb]at iG hS;have hlen:ds.length=S0.length + (kids r).length:=iG;refine⟨sl,rfl,⟨_,SqL.of (by rw [zn pz];exact Y)⟩,km (xs:=kk) (λj σ H'=>∃(d ws:List V) (n:Option V),σ= [some v,some (.ref lf),some (.ref dn),some N,some (.ref wl),n]/\H'=upd (upd G4 wl (.lst ws)) dn (.lst d)/\ds=d ++ ws/\ws.length=j)
   ⟨ds,[],n,rfl,by rw [zaZ w4],by simp,rfl⟩ ?_ ?_ ?_⟩
  ·rintro j σ H' _ ⟨d,ws,n,rfl,rfl,_⟩;exact SqL.of (by rw [zn pz,zn xp];exact Y)
  ·rintro j kx σ H' hj ⟨d,ws,n,rfl,rfl,y,pB⟩;have D0:j < kk.length:=(we.mp hj).1;have aq:d≠ []:=λz=>by
    have:=Qa List.length y;rw [z,List.nil_append,hlen,pB]at this
    lia
   obtain⟨gs,g,rfl⟩:=z3J aq;have I:upd (upd G4 wl (.lst ws)) dn (.lst (gs ++ [g])) dn=some (.lst (gs ++ [g])):=zj;have xq:upd (upd G4 wl (.lst ws)) dn (.lst (gs ++ [g])) wl=some (.lst ws):=by rw [zn t,zj]
   refine !⟨.inl ⟨rfl,_,SqL.of xq⟩,!⟨.inl ⟨rfl,_,SqL.of I⟩,dn,_,g,rfl,rfl,I,z1V _ _,?_⟩⟩;rw [w00,z5V];have pC:upd (upd G4 wl (.lst ws)) dn (.lst gs) wl=some (.lst ws):=by rw [zn t,zj]
   refine⟨wl,ws,g,rfl,rfl,pC,z2S (by lia),?_⟩;refine⟨gs,g :: ws,!⟨?_,by rw [y,Q9];rfl,by rw [wJ,pB]⟩⟩;rw [z6p t,z5V]
  ·rintro σ H' ⟨d,ws,n,rfl,rfl,y,pB⟩;rw [y]at rs;have fz:d.length=S0.length:=by
    have:=Qa List.length y;rw [wb]at this
    lia
   obtain⟨bc,bE⟩:=rs.cut fz;have pD:zz G (upd G4 wl (.lst ws)):=λb o e=>by
    rw [zn (zy e gw)];exact X _ _ (n1 _ _ e)
   have C:=Nt.of pD;have d5:upd G4 wl (.lst ws) dn=none:=by rw [zn t.symm];exact tI
   have w5:upd G4 wl (.lst ws) wl=some (.lst ws):=zj;have tJ:=okS _ _ pD M;generalize upd G4 wl (.lst ws)=G5 at pD C d5 w5 tJ ⊢;have I:upd G5 dn (.lst d) dn=some (.lst d):=zj;refine !⟨.inl ⟨rfl,_,SqL.of I⟩,rfl,!(!⟨dn,d,I,?_⟩)⟩;rw [ku d5];refine work r aN N wl ws G5 _ (nt.trans C) tJ (mD.mono λb xs e=>C.tup e) w5 (bE.imp λr u z=>g9 r u _ _ C z) λv' H6 n6 ad D d6=> ?_
   refine⟨dn,d,v',rfl,rfl,zj,z2S (by lia),?_⟩;rw [z5V];have R:=C.trans n6;exact⟨H6,S0 ++ [r],d ++ [v'],_,_,!⟨rfl,d6,nt.trans R,ad,R.lst gl,pi.mono λb xs e=>R.tup e,(bc.imp λr u z=>g9 r u _ _ R z).app ⟨v',[],rfl,D,rfl⟩,run',by rw [wb,wD];lia⟩⟩
 ·rintro σ H' ⟨G,S,ds,O,U,n,rfl,rfl,L,nt,M,gl,pi,rs,run,hS⟩;rw [tF,List.drop_length]at run;cases run;obtain⟨v',ws,rfl,res,e⟩:=rs;have e':ws= []:=e;subst e';have sd:zz G (upd G dn (.lst [v'])):=zJ L _;exact !(zw zj zD (fin v' _ (nt.trans (Nt.of sd)) (okS _ _ sd M) (g9 _ _ _ _ (Nt.of sd) res)))
def wfQ(th:Str->List Str):Qn->Prop
 | .table n=>n∈tabs
 | .pick c q=>c.ok (za th q)/\c.size<=20/\wfQ th q
 | .cols ns q=>ns.Nodup/\(∀n∈ns,n∈za th q)/\wfQ th q
 | .pair q r=>(∀n∈za th q,n∉za th r)/\(za th q ++ za th r).length<=100/\wfQ th q/\wfQ th r
 | .join a b q r=>a∈za th q/\b∈za th r/\(∀n∈za th q,n∉za th r)/\(za th q ++ za th r).length<=100/\wfQ th q/\wfQ th r
 | .both q r=>za th q=za th r/\wfQ th q/\wfQ th r
 | .first n q=>0<=n/\wfQ th q
 | .group a b n s q=>a∈za th q/\b∈za th q/\ [a,n,s].Nodup/\wfQ th q
 | .sort a q=>a∈za th q/\wfQ th q
def zdw(nd:ns.Nodup)(h:∀n∈ns,n∈hs):ns.length<=hs.length:=yY nd h
theorem jK{th:Str->List Str}{tr:Str->List (List Int)}(T:TabOk th tr):∀{q:Qn},wfQ th q->(za th q).Nodup/\(za th q).length<=100
 | .table n,h=>⟨(T.hd n h).2,by
  obtain⟨m,d,f,e⟩:=T.t;have ht:(th "t").length<=100:=by rw [e,wS];lia
  have hn:n∈tabs:=h;simp only [tabs,wE,qf,Qu]at hn
  show(th n).length<=100
  rcases hn with rfl | rfl | rfl | rfl
  ·exact ht
  ·rw [T.w];decide +kernel
  ·rw [T.x];decide +kernel
  ·rw [T.z];exact ht⟩
 | .pick _ q,h=>jK T (q:=q) h.2.2
 | .cols ns q,h=>⟨h.1,wV (zdw h.1 h.2.1) (jK T (q:=q) h.2.2).2⟩
 | .pair q r,h=>⟨QL.mpr ⟨(jK T (q:=q) h.2.2.1).1,(jK T (q:=r) h.2.2.2).1,λa ha b c e=>h.1 a ha (e ▸ c)⟩,h.2.1⟩
 | .join a b q r,h=>⟨QL.mpr ⟨(jK T (q:=q) h.2.2.2.2.1).1,(jK T (q:=r) h.2.2.2.2.2).1,λa ha b c e=>h.2.2.1 a ha (e ▸ c)⟩,h.2.2.2.1⟩
 | .both q r,h=>jK T (q:=q) h.2.1
 | .first _ q,h=>jK T (q:=q) h.2
 | .group a b n s q,h=>⟨h.2.2.1,by show 3<=100;decide⟩
 | .sort _ q,h=>jK T (q:=q) h.2
def zdX(th:Str->List Str)(r:Qn)(v:V)(H:Hp):Prop:=∃hp,v= .ref hp/\H hp=some (.lst ((za th r).map V.str))
inductive spHOT (K:W.Frag) (vs:List V) (H:Hp) (Q:VK) (E:XK):Prop
 | mk:∀th tr tp n,vs= [.ref tp,.str n]->jE th tr H tp->n∈tabs->(th n).length<=1000->(∀(hp:Addr) (H':Hp),zz H H'->H' hp=some (.lst ((th n).map V.str))->Q (.ref hp) H')->spHOT K vs H Q E
theorem z2W{p:Addr}(h:jE th tr H p):∃vs:List V,H p=some (.lst vs)/\vs.length=4/\∀i,i < 4->∃v,vs[i]? =some v/\TabAt th tr H v (tabs.getD i ""):=by
 obtain⟨v0,v1,v2,v3,h0,a,b,c,d⟩:=h;refine⟨_,h0,rfl,λi hi=> ?_⟩
 match i,hi with
 | 0,_=>exact⟨v0,rfl,a⟩
 | 1,_=>exact⟨v1,rfl,b⟩
 | 2,_=>exact⟨v2,rfl,c⟩
 | 3,_=>exact⟨v3,rfl,d⟩
theorem z8k(h:n∈tabs):∃j,j < 4/\tabs.getD j ""=n:=by
 have hn:=h;simp only [tabs,wE,qf,Qu]at hn;rcases hn with rfl | rfl | rfl | rfl
 ·exact⟨0,by decide,rfl⟩
 ·exact⟨1,by decide,rfl⟩
 ·exact⟨2,by decide,rfl⟩
 ·exact⟨3,by decide,rfl⟩
theorem z0C:FnScope ["tables","name","table"] ["tables","name"] (zm kL):=by walk_at "s"
theorem z2R(F:Fun K "heads_of_table" "heads_of_table" kL f fd)(T:Txt K mg):FnOk P w K mg base CX0 1 f fd ["tables","name"] (spHOT K):=by
 refine F.okB z0C (λvs H Q E h=> ?_) (λvs H Q E h=> ?_)
 ·obtain⟨th,tr,tp,n,rfl,_⟩:=h
  rfl
 obtain⟨th,tr,tp,n,rfl,u,hn,C,fin⟩:=h;obtain⟨vs,o,y,r⟩:=z2W u;obtain⟨j,D,B⟩:=z8k hn;intro ac A outer I hr;refine⟨_,(ze (foR (jb v0) (gnM 2 z0C)
   (zh (zF (cmT zK (ixT v2 zb) v1)
    (zh (zt (je jY rfl T.list qF (zl (ixT v2 zb) zd))))
    zu)))
  (zh z2A)),?_⟩
 generalize hK0:K=K1
 revert K1
 refine jo (by walk_at "cl") ?_;refine !⟨tp,rfl,⟨_,SqL.of o⟩,km (xs:=vs) (λi σ H'=>∃a,σ= [some (.ref tp),some (.str n),a]/\H'=H/\i<=j) ⟨none,rfl,rfl,qY _⟩ ?_ ?_ ?_⟩
 ·rintro i σ H' _ ⟨a,rfl,rfl,_⟩;exact SqL.of o
 ·rintro i x σ H' hi ⟨a,rfl,rfl,s⟩;have t:i < 4:=by rw [<-y];exact(we.mp hi).1
  obtain⟨v,c,p,hp,rp,rs,rfl,d,b,J,G⟩:=r i t;rw [hi]at c;cases c;refine !(zg d zD (!⟨rfl,!?_⟩));by_cases e:tabs.getD i ""=n
  ·refine ifT (by rw [zW];exact wN e) ?_;rw [e]at b;refine !(zg d jc ⟨hp,!⟨.inl (SqL.of b),λl hl=> ?_⟩⟩);refine zc (upd _ l _) rfl hl λH1 q x1=> ?_
   exact fin l H1 q x1
  ·refine ifF (by rw [zW];exact wI e) ?_;refine !⟨rfl,?_⟩;have:i≠j:=λz=>e (by rw [z];exact B)
   lia
 ·rintro σ H' ⟨a,rfl,rfl,s⟩
  lia
inductive spCheck (K:W.Frag) (vs:List V) (H:Hp) (Q:VK) (E:XK):Prop
 | mk:∀np hp (ns:List Str) (hs:List Str),vs= [.ref np,.ref hp]->(SqL K H np (ns.map V.str)\/SqT K H np (ns.map V.str))->SqL K H hp (hs.map V.str)->(∀n∈ns,n∈hs)->Q .non H->spCheck K vs H Q E
theorem z5F(h:n∈hs):inV (.str n) (hs.map V.str)=true:=by
 unfold inV;exact w14.mpr ⟨.str n,qA.mpr ⟨n,h,rfl⟩,by simp [eqV]⟩
theorem jd(hs:List Str):(hs.map V.str).all yM=true:=qH.mpr λx a=>by
 obtain⟨s,_,rfl⟩:=qA.mp a
 rfl
theorem z9A{x:V}(h:(ns.map V.str)[i]? =some x):∃n∈ns,x= .str n:=by
 obtain⟨n,hn,e⟩:=qA.mp (qD h);exact⟨n,hn,e.symm⟩
theorem z15:FnScope ["names","heads","name"] ["names","heads"] (zm z0e):=by walk_at "s"
theorem z3a(F:Fun K "check_columns" "check_columns" z0e f fd)(T:Txt K mg):FnOk P w K mg base CX0 1 f fd ["names","heads"] (spCheck K):=by
 refine F.okB z15 (λvs H Q E h=> ?_) (λvs H Q E h=> ?_)
 ·obtain⟨np,hp,ns,hs,rfl,_⟩:=h
  rfl
 obtain⟨np,hp,ns,hs,rfl,aA,b,sub,q⟩:=h;intro ac A outer c hr;refine⟨_,(zh (foR (zdI (jb v0) (z31 v0)) (gnM 2 z15)
   (zh (zF (jR yH v2 v1 (by with_unfolding_all rfl))
    (zh z2A)
    zu)))),?_⟩
 generalize hK0:K=K1
 revert K1
 refine jo (by walk_at "cl") ?_;rcases aA with aA | aA
 ·refine .inl (!⟨np,rfl,⟨_,aA⟩,km (xs:=ns.map V.str) (λi σ H'=>∃a,σ= [some (.ref np),some (.ref hp),a]/\H'=H) ⟨none,rfl,rfl⟩ ?_ ?_ ?_⟩)
  ·rintro i σ H' _ ⟨a,rfl,rfl⟩;exact aA
  ·rintro i x σ H' hi ⟨a,rfl,rfl⟩;obtain⟨n,hn,rfl⟩:=z9A hi;refine !(!⟨hp,!⟨.inl b,rfl,jd hs,!?_⟩⟩);exact ifF (by show(not (inV _ _))=false;rw [z5F (sub n hn)];rfl) (!rfl)
  ·rintro σ H' ⟨a,rfl,rfl⟩;exact q
 ·refine .inr (!⟨np,rfl,⟨_,aA⟩,z5X (xs:=ns.map V.str) (λi σ H'=>∃a,σ= [some (.ref np),some (.ref hp),a]/\H'=H) ⟨none,rfl,rfl⟩ ?_ ?_ ?_⟩)
  ·rintro i σ H' _ ⟨a,rfl,rfl⟩;exact aA
  ·rintro i x σ H' hi ⟨a,rfl,rfl⟩;obtain⟨n,hn,rfl⟩:=z9A hi;refine !(!⟨hp,!⟨.inl b,rfl,jd hs,!?_⟩⟩);exact ifF (by show(not (inV _ _))=false;rw [z5F (sub n hn)];rfl) (!rfl)
  ·rintro σ H' ⟨a,rfl,rfl⟩;exact q
inductive spOnce (K:W.Frag) (vs:List V) (H:Hp) (Q:VK) (E:XK):Prop
 | mk:∀hp (hs:List Str),vs= [.ref hp]->SqL K H hp (hs.map V.str)->hs.length<=1000->hs.Nodup->(∀H',zz H H'->Q (.ref hp) H')->spOnce K vs H Q E
theorem z5Y:FnScope ["heads"] ["heads"] (zm z1M):=by walk_at "s"
theorem z5I(F:Fun K "each_once" "each_once" z1M f fd)(T:Txt K mg)(R:TxtP K mg):FnOk P w K mg base CX0 1 f fd ["heads"] (spOnce K):=by
 refine F.okB z5Y (λvs H Q E h=> ?_) (λvs H Q E h=> ?_)
 ·obtain⟨hp,hs,rfl,_⟩:=h
  rfl
 obtain⟨hp,hs,rfl,c,hl,nd,q⟩:=h;intro ac A outer d hr;refine⟨_,(ze (zF (cmT z14 (zQ (z6M (P:=P) (w:=w) rfl rfl) rfl T.len PySem.boot_len (zT (je (z9H (P:=P) (w:=w) (K:=K) rfl rfl rfl rfl) rfl R.set PyProof.Rows.boot_set (zf v0 zd)) zd)) (leN T.len (zf v0 zd)))
   (zh z2A)
   zu)
  (zh (zt v0))),?_⟩
 generalize hK0:K=K1
 revert K1
 refine jo (by walk_at "cl") ?_;refine !⟨hp,hs,rfl,c,hl,λa ha=> ?_⟩;refine zc (upd _ a _) rfl ha λH1 b x1=> ?_
 refine⟨a,!⟨x1,!⟨hp,!⟨.inl (b.seq c),rfl,!?_⟩⟩⟩⟩;refine ifF ?_ ?_
 ·rw [(z7L hs).mpr nd,w9];simp
 ·exact !(q _ b)
inductive spOne (K:W.Frag) (vs:List V) (H:Hp) (Q:VK) (E:XK):Prop
 | mk:∀th tr q r v hp,vs= [v,.ref hp]->TabOk th tr->QAt H q v->kids q= [r]->wfQ th q->H hp=some (.lst ((za th r).map V.str))->(∀(aa:Addr) (H':Hp),zz H H'->H' aa=some (.lst ((za th q).map V.str))->Q (.ref aa) H')->spOne K vs H Q E
theorem z1a(h:c.ok hs):∀s∈c.cols,s∈hs:=by
 have side:∀{a:Side},a.ok hs->∀s∈a.cols,s∈hs:=λ{a} h s m=>by
  cases a with
  | nm x=>rw [show s=x from wu.mp m];exact h
  | nu i=>cases m
 induction c with
 | less a b=>exact λs m=>(wx.mp m).elim (side h.1 s) (side h.2 s)
 | same a b=>exact λs m=>(wx.mp m).elim (side h.1 s) (side h.2 s)
 | no c j=>exact j h
 | an c d f e=>exact λs m=>(wx.mp m).elim (f h.1 s) (e h.2 s)
 | or c d f e=>exact λs m=>(wx.mp m).elim (f h.1 s) (e h.2 s)
def zdL{x y z u t:α}{r:List α}:atI (x :: y :: z :: u :: t :: r) 4=some t:=zX (j:=4) rfl
theorem z0I:FnScope ["question","heads","word"] ["question","heads"] (zm kH):=by walk_at "s"
theorem z2V(F:Fun K "heads_over_one" "heads_over_one" kH f fd)(T:Txt K mg)(d:Kn P w K mg base 1 "check_columns" ["names","heads"] (spCheck K))(j:Kn P w K mg base 1 "columns_of" ["condition"] (spCols K))(i:Kn P w K mg base 1 "each_once" ["heads"] (spOnce K)):FnOk P w K mg base CX0 2 f fd ["question","heads"] (spOne K):=by
 refine F.okB z0I (λvs H Q E h=> ?_) (λvs H Q E h=> ?_)
 ·obtain⟨th,tr,q,r,v,hp,rfl,_⟩:=h
  rfl
 obtain⟨th,tr,q,r,v,hp,rfl,TT,hq,t,wf,u,fin⟩:=h;intro ac A outer N hr;refine⟨_,(ze (seT 2 z0I (ixT v0 zb))
  (ze (zF (cmT zK v2 zi)
   (zh (jg (zV d hr.m (zT (zV j hr.m (zl (ixT v0 zb) zd)) (zf v1 zd)))))
   (zh (zF (cmT zK v2 zi)
    (zh (jg (zV d hr.m (jL (zx (zl (ixT v0 zb) zd)) (zf v1 zd)))))
    (zh (zF (cmT zK v2 zi)
     (ze (jg (zV d hr.m (zl (ixT v0 zb) (zf v1 zd))))
     (zh (zt (zV i hr.m (zT (je jY rfl T.list qF (zl (ixT v0 zb) zd)) zd)))))
     (zh (zF (cmT zK v2 zi)
      (ze (jg (zV d hr.m (jL (zx (zl (ixT v0 zb) (zl (ixT v0 zb) zd))) (zf v1 zd))))
      (zh (zt (zV i hr.m (jL (zx (zl (ixT v0 zb) (zl (ixT v0 zb) (zl (ixT v0 zb) zd)))) zd)))))
      zu)))))))
  (zh (zt v1)))),?_⟩
 generalize hK0:K=K1
 revert K1
 refine jo (by walk_at "cl") ?_;have l0:∀n:Nat,n<=10->n<=sizeLine:=λn h=>ja (by lia)
 have no:∀{a b:Str},a≠b->decide (V.str a=V.str b)=false:=λ{a b} h=>by rw [zW];exact wI h
 have z:∀a:Str,decide (V.str a=V.str a)=true:=λa=>wN rfl
 cases q with
 | table n=>cases t
 | pair a b=>cases t
 | join x y a b=>cases t
 | both a b=>cases t
 | pick c q'=>
  cases (show q'=r from(List.cons.inj t).1);obtain⟨p,x,y,rfl,h1,h2,C⟩:=hq;refine !(zg h1 zD ?_);refine !⟨rfl,!?_⟩;refine ifT (z _) ?_;refine !(zg h1 jc ⟨c,x,c.cols,rfl,h2,by have:=wf.2.1;lia,λs m=>m,by have:=c.cols_le;have:=wf.2.1;lia,λl ss H1 o x1 nd mem O=> ?_⟩);refine !⟨l,hp,ss,_,rfl,.inl (SqL.of x1),SqL.of (o _ _ u),λs m=>z1a wf.1 s ((mem s).mp m),?_⟩;exact !(fin hp H1 o (o _ _ u))
 | sort a q'=>
  cases (show q'=r from(List.cons.inj t).1);obtain⟨p,y,rfl,h1,C⟩:=hq;refine !(zg h1 zD ?_);refine !⟨rfl,!?_⟩;refine ifF (no (by decide +kernel)) ?_;refine !⟨rfl,!?_⟩;refine ifT (z _) ?_;refine !(zg h1 jc ⟨l0 1 (by decide),λl hl=> ?_⟩);refine zc (upd _ l _) rfl hl λH1 o x1=> ?_
  refine !⟨l,hp,[a],_,rfl,.inl (SqL.of x1),SqL.of (o _ _ u),λs m=>by rw [wu.mp m];exact wf.1,?_⟩;exact !(fin hp H1 o (o _ _ u))
 | cols ns q'=>
  cases (show q'=r from(List.cons.inj t).1);obtain⟨p,x,y,rfl,h1,h2,C⟩:=hq;refine !(zg h1 zD ?_);refine !⟨rfl,!?_⟩;refine ifF (no (by decide +kernel)) ?_;refine !⟨rfl,!?_⟩;refine ifF (no (by decide +kernel)) ?_;refine !⟨rfl,!?_⟩;refine ifT (z _) ?_;refine !(zg h1 jc (!⟨x,hp,ns,_,rfl,.inr (SqT.of h2),SqL.of u,wf.2.1,?_⟩));refine !(zg h1 jc ⟨x,!⟨.inr (SqT.of h2),λl hl=> ?_⟩⟩);refine zc (upd _ l _) rfl hl λH1 o x1=> ?_
  have:=(jK TT wf).2;have J:ns.length<=1000:=by have:ns.length<=100:=this;lia
  exact⟨l,ns,rfl,SqL.of x1,J,wf.1,λH2 B=>fin l H2 (o.trans B) (B _ _ x1)⟩
 | group a b n s q'=>
  cases (show q'=r from(List.cons.inj t).1);obtain⟨p,y,rfl,h1,C⟩:=hq;refine !(zg h1 zD ?_);refine !⟨rfl,!?_⟩;refine ifF (no (by decide +kernel)) ?_;refine !⟨rfl,!?_⟩;refine ifF (no (by decide +kernel)) ?_;refine !⟨rfl,!?_⟩;refine ifF (no (by decide +kernel)) ?_;refine !⟨rfl,!?_⟩;refine ifT (z _) ?_;refine !(zg h1 jc (!(zg h1 ji ⟨l0 2 (by decide),λl hl=> ?_⟩)));refine zc (upd _ l _) rfl hl λH1 o x1=> ?_
  refine !⟨l,hp,[a,b],_,rfl,.inl (SqL.of x1),SqL.of (o _ _ u),λs m=> ?_,?_⟩
  ·rcases wE.mp m with e | m
   ·rw [e];exact wf.1
   ·rw [wu.mp m];exact wf.2.1
  ·have D:=o _ _ h1;refine !(zg D jc (!(zg D z0O (!(zg D zdL ⟨l0 3 (by decide),λl2 L=> ?_⟩)))));refine zc (upd _ l2 _) rfl L λH2 B I=> ?_
   exact⟨l2,[a,n,s],rfl,SqL.of I,by show 3<=1000;decide,wf.2.2.1,λM G=>fin l2 M (o.trans (B.trans G)) (G _ _ I)⟩
 | first n q'=>
  cases (show q'=r from(List.cons.inj t).1);obtain⟨p,y,rfl,h1,C⟩:=hq;refine !(zg h1 zD ?_);refine !⟨rfl,!?_⟩;refine ifF (no (by decide +kernel)) ?_;refine !⟨rfl,!?_⟩;refine ifF (no (by decide +kernel)) ?_;refine !⟨rfl,!?_⟩;refine ifF (no (by decide +kernel)) ?_;refine !⟨rfl,!?_⟩;refine ifF (no (by decide +kernel)) ?_;exact !(fin hp H (zz.refl _) u)
inductive spTwo (K:W.Frag) (vs:List V) (H:Hp) (Q:VK) (E:XK):Prop
 | mk:∀th tr q r t v hp op,vs= [v,.ref hp,.ref op]->TabOk th tr->QAt H q v->kids q= [r,t]->wfQ th q->H hp=some (.lst ((za th r).map V.str))->H op=some (.lst ((za th t).map V.str))->(∀(aa:Addr) (H':Hp),zz H H'->H' aa=some (.lst ((za th q).map V.str))->Q (.ref aa) H')->spTwo K vs H Q E
theorem z2C:FnScope ["question","heads","others"] ["question","heads","others"] (zm kM):=by walk_at "s"
theorem z2M(F:Fun K "heads_over_two" "heads_over_two" kM f fd)(T:Txt K mg)(e:Kn P w K mg base 1 "check_columns" ["names","heads"] (spCheck K))(i:Kn P w K mg base 1 "each_once" ["heads"] (spOnce K)):FnOk P w K mg base CX0 2 f fd ["question","heads","others"] (spTwo K):=by
 refine F.okB z2C (λvs H Q E h=> ?_) (λvs H Q E h=> ?_)
 ·obtain⟨th,tr,q,r,t,v,hp,op,rfl,_⟩:=h
  rfl
 obtain⟨th,tr,q,r,t,v,hp,op,rfl,TT,hq,j,wf,B,D,fin⟩:=h;intro ac A outer Z hr;have X:=z1u hr;refine⟨_,(ze (zF (cmT zK (ixT v0 zb) zi)
   (ze (zF (cmT (z8V (K:=K) rfl X) v1 v2)
    (zh z2A)
    zu)
   (zh (zt v1)))
   zu)
  (ze (zF (cmT zK (ixT v0 zb) zi)
   (ze (jg (zV e hr.m (jL (zx (zl (ixT v0 zb) zd)) (zf v1 zd))))
   (zh (jg (zV e hr.m (jL (zx (zl (ixT v0 zb) zd)) (zf v2 zd))))))
   zu)
  (zh (zt (zV i hr.m (yo (zr ke v1 v2) zd)))))),?_⟩
 generalize hK0:K=K1
 revert K1
 refine jo (by walk_at "cl") ?_;have l0:∀n:Nat,n<=10->n<=sizeLine:=λn h=>ja (by lia)
 have no:∀{a b:Str},a≠b->decide (V.str a=V.str b)=false:=λ{a b} h=>by rw [zW];exact wI h
 have L:∀a:Str,decide (V.str a=V.str a)=true:=λa=>wN rfl
 have o:=jK TT wf;cases q with
 | table n=>cases j
 | pick c a=>cases j
 | cols ns a=>cases j
 | first n a=>cases j
 | sort n a=>cases j
 | group a b n s q=>cases j
 | both a b=>
  obtain⟨rfl,z⟩:=List.cons.inj j;obtain⟨rfl,_⟩:=List.cons.inj z;obtain⟨p,x,y,rfl,h1,h2,N⟩:=hq;refine !(zg h1 zD ⟨rfl,!?_⟩);refine ifT (L _) ?_;refine !(!⟨hp,op,ex2 rfl rfl ⟨SqL.of B,SqL.of D,jd _,jd _,!?_⟩⟩);refine ifF (by rw [z6O,wN wf.1];rfl) ?_;exact !(fin hp H (zz.refl _) B)
 | pair a b=>
  obtain⟨rfl,z⟩:=List.cons.inj j;obtain⟨rfl,_⟩:=List.cons.inj z;obtain⟨p,x,y,rfl,h1,h2,N⟩:=hq;refine !(zg h1 zD ⟨rfl,!?_⟩);refine ifF (no (by decide +kernel)) ?_;refine !(zg h1 zD ⟨rfl,!?_⟩);refine ifF (no (by decide +kernel)) ?_;refine !(!⟨hp,op,ex2 rfl rfl ⟨B,D,ja (by rw [w9,w9];have:=o.2;rw [show za th (Qn.pair a b)=za th a ++ za th b from rfl,wb]at this;lia),λl hl=> ?_⟩⟩);refine zc (upd _ l _) rfl hl λH1 u x1=> ?_
  rw [<-wC]at x1;exact⟨l,_,rfl,SqL.of x1,by have:(za th a ++ za th b).length<=100:=o.2;lia,o.1,λH2 C=>fin l H2 (u.trans C) (C _ _ x1)⟩
 | join c d a b=>
  obtain⟨rfl,z⟩:=List.cons.inj j;obtain⟨rfl,_⟩:=List.cons.inj z;obtain⟨p,x,y,rfl,h1,h2,N⟩:=hq;refine !(zg h1 zD ⟨rfl,!?_⟩);refine ifF (no (by decide +kernel)) ?_;refine !(zg h1 zD ⟨rfl,!?_⟩);refine ifT (L _) ?_;refine !(zg h1 jc ⟨l0 1 (by decide),λl hl=> ?_⟩);refine zc (upd _ l _) rfl hl λH1 u x1=> ?_
  refine !⟨l,hp,[c],_,rfl,.inl (SqL.of x1),SqL.of (u _ _ B),λs m=>by rw [wu.mp m];exact wf.1,?_⟩;refine !(zg (u _ _ h1) ji ⟨l0 1 (by decide),λl2 U=> ?_⟩);refine zc (upd _ l2 _) rfl U λH2 C S=> ?_
  have n12:=u.trans C;refine !⟨l2,op,[d],_,rfl,.inl (SqL.of S),SqL.of (n12 _ _ D),λs m=>by rw [wu.mp m];exact wf.2.1,?_⟩;refine !(!⟨hp,op,ex2 rfl rfl ⟨n12 _ _ B,n12 _ _ D,ja (by rw [w9,w9];have:=o.2;rw [show za th (Qn.join c d a b)=za th a ++ za th b from rfl,wb]at this;lia),λI J=> ?_⟩⟩);refine zc (upd _ I _) rfl J λY O G=> ?_
  rw [<-wC]at G;exact⟨I,_,rfl,SqL.of G,by have:(za th a ++ za th b).length<=100:=o.2;lia,o.1,λR M=>fin I R (n12.trans (O.trans M)) (M _ _ G)⟩
inductive spHeadsAt (K:W.Frag) (vs:List V) (H:Hp) (Q:VK) (E:XK):Prop
 | mk:∀th tr q v tp wl ws,vs= [.ref tp,v,.ref wl]->TabOk th tr->jE th tr H tp->QAt H q v->wfQ th q->H wl=some (.lst ws)->z1p (zdX th) H (kids q) ws->(∀(hp:Addr) (H':Hp),zz H H'->H' hp=some (.lst ((za th q).map V.str))->Q (.ref hp) H')->spHeadsAt K vs H Q E
theorem z6m:FnScope ["tables","question","within"] ["tables","question","within"] (zm z2v):=by walk_at "s"
theorem z6Q(F:Fun K "heads_at" "heads_at" z2v f fd)(T:Txt K mg)(b:Kn P w K mg base 1 "heads_of_table" ["tables","name"] (spHOT K))(a:Kn P w K mg base 2 "heads_over_one" ["question","heads"] (spOne K))(c:Kn P w K mg base 2 "heads_over_two" ["question","heads","others"] (spTwo K)):FnOk P w K mg base CX0 3 f fd ["tables","question","within"] (spHeadsAt K):=by
 refine F.okB z6m (λvs H Q E h=> ?_) (λvs H Q E h=> ?_)
 ·obtain⟨th,tr,q,v,tp,wl,ws,rfl,_⟩:=h
  rfl
 obtain⟨th,tr,q,v,tp,wl,ws,rfl,TT,B,hq,wf,d,rs,fin⟩:=h;intro ac A outer G hr;refine⟨_,(ze (zF (cmT zK (leN T.len (zf v2 zd)) zb)
   (zh (zt (zV b hr.m (zf v0 (zl (ixT v1 zb) zd)))))
   zu)
  (ze (zF (cmT zK (leN T.len (zf v2 zd)) zb)
   (zh (zt (zV a hr.m (zf v1 (zl (ixL v2 zb) zd)))))
   zu)
  (zh (zt (zV c hr.m (zf v1 (zl (ixL v2 zb) (zl (ixL v2 zb) zd)))))))),?_⟩
 generalize hK0:K=K1
 revert K1
 refine jo (by walk_at "cl") ?_;have l:=rs.len;rcases zcz hq with⟨n,p,rfl,rfl,hp⟩ | ⟨r,p,w,xs,y,hk,rfl,hp,hy,aQ,hw⟩ | ⟨r,t,p,w,xs,x,y,hk,rfl,hp,hx,hy,aQ,hw⟩
 ·have l0:ws.length=0:=l;refine !⟨wl,!⟨.inl (SqL.of d),rfl,!?_⟩⟩;refine ifT (by rw [l0];simp) ?_;exact !(!(zg hp jc ⟨th,tr,tp,n,rfl,B,wf,by have:=(jK TT wf).2;have:(th n).length<=100:=this;lia,fin⟩))
 ·rw [hk]at rs l;obtain⟨u,us,rfl,⟨j,rfl,i⟩,e⟩:=rs;have D:us= []:=e;subst D;refine !⟨wl,!⟨.inl (SqL.of d),rfl,!?_⟩⟩;refine ifF (by simp) ?_;refine !⟨wl,!⟨.inl (SqL.of d),rfl,!?_⟩⟩;refine ifT (by simp) ?_;exact !(!(zw d zD ⟨th,tr,q,r,.ref p,j,rfl,TT,hq,hk,wf,i,fin⟩))
 ·rw [hk]at rs l;obtain⟨u,us,rfl,⟨j,rfl,i⟩,I,s,rfl,⟨o,rfl,e⟩,C⟩:=rs;have z:s= []:=C;subst z;refine !⟨wl,!⟨.inl (SqL.of d),rfl,!?_⟩⟩;refine ifF (by simp) ?_;refine !⟨wl,!⟨.inl (SqL.of d),rfl,!?_⟩⟩;refine ifF (by simp) ?_;exact !(!(zw d zD (!(zw d jc ⟨th,tr,q,r,t,.ref p,j,o,rfl,TT,hq,hk,wf,i,e,fin⟩))))
def ze9{T:Addr}{lp:Pos}{q:Str}(a:z1z H T lp q)(k:Kp T H H'):Nt H H':=λb o e n=>k b o (a.ne e n) e
def _root_.L2.WorkOk.mono{CX:CXT}{k:Nat}{fs:List Addr}{s:Shared}{lf:Addr}(W:WorkOk P w K mg base CX j fs H s lf sp)(h:j<=k):WorkOk P w K mg base CX k fs H s lf sp:=
 ⟨W.here,λA outer s' H' us vs Q E hr=>W.run A outer s' H' us vs Q E (hr.mono h)⟩
def _root_.Rw.RowsAt.nt{p:Addr}(h:RowsAt H p rs)(k:Nt H H'):RowsAt H' p rs:=⟨k.lst h.1,λr m=>⟨(h.2 r m).1,k.lst (h.2 r m).2⟩⟩
theorem TabAt.nt{v:V}(h:TabAt th tr H v n)(k:Nt H H'):TabAt th tr H' v n:=by
 obtain⟨p,hp,rp,rs,rfl,h1,c,b,a⟩:=h;exact⟨p,hp,rp,rs,rfl,k.tup h1,k.lst c,b.nt k,a⟩
theorem jE.nt{p:Addr}(h:jE th tr H p)(k:Nt H H'):jE th tr H' p:=by
 obtain⟨v0,v1,v2,v3,h0,a,b,c,d⟩:=h;exact⟨v0,v1,v2,v3,k.lst h0,a.nt k,b.nt k,c.nt k,d.nt k⟩
def _root_.Qs.QAt.nt{v:V}(h:QAt H q v)(k:Nt H H'):QAt H' q v:=h.mono λb xs e=>k.tup e
theorem z8M(h:wfQ th q):∀r∈kids q,wfQ th r:=by cases q <;> simp_all [kids,wfQ]
def zbO(h:wfQ th q):∀r∈post q,wfQ th r:=za3 (λ_=>z8M) _ h
theorem yh(T:TabOk th tr):∀{q:Qn},wfQ th q->∀r∈rowsOf th tr q,r.length=(za th q).length
 | .table n,h=>λr m=>T.rl n h r m
 | .pick c q,h=>λr m=>yh T (q:=q) h.2.2 r (Qp.mp m).1
 | .cols ns q,h=>λr m=>by
  obtain⟨x,_,rfl⟩:=qA.mp m;rw [w9];rfl
 | .pair q s,h=>λr m=>by
  obtain⟨x,d,y,e,rfl⟩:=z20 m
  show _=(za th q ++ za th s).length
  rw [wb,wb,yh T (q:=q) h.2.2.1 x d,yh T (q:=s) h.2.2.2 y e]
 | .join a b q s,h=>λr m=>by
  obtain⟨x,d,y,e,rfl⟩:=z20 (Qp.mp m).1
  show _=(za th q ++ za th s).length
  rw [wb,wb,yh T (q:=q) h.2.2.2.2.1 x d,yh T (q:=s) h.2.2.2.2.2 y e]
 | .both q s,h=>λr m=>by
  rcases wx.mp m with m | m
  ·exact yh T (q:=q) h.2.1 r m
  ·have:=yh T (q:=s) h.2.2 r m;rw [<-h.1]at this;exact this
 | .first n q,h=>λr m=>yh T (q:=q) h.2 r (QC m)
 | .group a b n s q,h=>λr m=>by
  obtain⟨x,_,rfl⟩:=qA.mp m
  rfl
 | .sort a q,h=>λr m=>yh T (q:=q) h.2 r (z55 m)
theorem z2N(q:Qn):(kids q).length<=2:=by cases q <;> simp [kids]
inductive spAgain (K:W.Frag) (vs:List V) (H:Hp) (Q:VK) (E:XK):Prop
 | mk:∀th tr tp,vs= [.ref tp]->TabOk th tr->jE th tr H tp->(∀(p:Addr) (H':Hp),zz H H'->jE th tr H' p->Q (.ref p) H')->spAgain K vs H Q E
theorem z6o(h:i < 4):tabs.getD i ""∈tabs:=by
 match i,h with
 | 0,_=>decide +kernel
 | 1,_=>decide +kernel
 | 2,_=>decide +kernel
 | 3,_=>decide +kernel
def zc1{P:List α->Prop}(h:∀a,P [a]):∀us:List α,us.length=1->P us
 | [a],_=>h a
def zb7{P:List α->Prop}(h:∀a b,P [a,b]):∀us:List α,us.length=2->P us
 | a :: l,e=>zc1 (P:=λl=>P (a :: l)) (h a) l (Nat.succ.inj e)
def zcb{P:List α->Prop}(h:∀a b c,P [a,b,c]):∀us:List α,us.length=3->P us
 | a :: l,e=>zb7 (P:=λl=>P (a :: l)) (h a) l (Nat.succ.inj e)
def zdz{P:List α->Prop}(h:∀a b c d,P [a,b,c,d]):∀us:List α,us.length=4->P us
 | a :: l,e=>zcb (P:=λl=>P (a :: l)) (h a) l (Nat.succ.inj e)
theorem zbN{p:Addr}{ys:List V}(h:H p=some (.lst ys))(hl:ys.length=4)(e:∀j,j < 4->∃y,ys[j]? =some y/\TabAt th tr H y (tabs.getD j "")):jE th tr H p:=by
 obtain⟨a,b,c,d,rfl⟩:∃a b c d,ys= [a,b,c,d]:=zdz (P:=λys=>∃a b c d,ys= [a,b,c,d]) (λ_ _ _ _=>⟨_,_,_,_,rfl⟩) ys hl
 obtain⟨_,n,o⟩:=e 0 (by decide);obtain⟨_,l,q⟩:=e 1 (by decide);obtain⟨_,f,i⟩:=e 2 (by decide);obtain⟨_,r,s⟩:=e 3 (by decide);cases n;cases l;cases f;cases r;exact⟨a,b,c,d,h,o,q,i,s⟩
theorem z4Z:FnScope ["_law_tables"] ["_law_tables"] (zm kr):=by walk_at "s"
theorem z4T(F:Fun K "_law_again" "_law_again" kr f fd)(T:Txt K mg):FnOk P w K mg base CX0 1 f fd ["_law_tables"] (spAgain K):=by
 refine F.okB z4Z (λvs H Q E h=> ?_) (λvs H Q E h=> ?_)
 ·obtain⟨th,tr,tp,rfl,_⟩:=h
  rfl
 obtain⟨th,tr,tp,rfl,TT,h4,fin⟩:=h;obtain⟨vs,ck,X,da⟩:=z2W h4;intro ac A outer sh hr;refine⟨_,(zh (zt (yz rfl (CompSc.of (sx:=zm kr) (NX:= ["_law_tables"]) (fr:= []) (ix:= []) rfl rfl (by decide +kernel)) (jb v0) (λ_ _ _ _ _ _=>jM) (λ_ _ _ _ _ _=>(zC (zl (yK (z0j (K:=K) rfl) v0 zb (λ_ _=>rfl)) (zT (je (z2g (K:=K) rfl) rfl T.list qF (zl (yK (z0j (K:=K) rfl) v0 zb (λ_ _=>rfl)) zd)) (z1g (yz rfl (CompSc.of2 (sx:=zm kr) (NX:= ["_law_one"]) (fr:= []) (ix:= []) rfl rfl (by decide +kernel)) (z6A (K:=K) rfl (yK (z0j (K:=K) rfl) v0 zb (λ_ _=>rfl))) (λ_ _ _ _ _ _=>jM) (λ_ _ _ _ _ _=>(je (z2g (K:=K) rfl) rfl T.list qF (zf v0 zd)))) zd)))))))),?_⟩;generalize hK0:K=K1
 revert K1
 refine jo (by walk_at "cl") ?_;refine !⟨tp,rfl,⟨_,SqL.of ck⟩,?_⟩;refine jF (xs:=vs) (λi ys H'=>zz H H'/\ys.length=i/\∀j,j < i->∃y,ys[j]? =some y/\TabAt th tr H' y (tabs.getD j "")) ⟨zz.refl _,rfl,λj z=>absurd z (Nat.not_lt_zero _)⟩ ?_ ?_ ?_
 ·rintro i ys H' hi ⟨b,hl,_⟩;exact⟨SqL.of (b _ _ ck),zG (by rw [hl];lia)⟩
 ·rintro i x ys H' hi ⟨b,hl,t⟩;have J:i < 4:=by rw [<-X];exact(we.mp hi).1
  obtain⟨v,I,p,hp,rp,rs,rfl,t1,t2,t3,Y⟩:=da i J;rw [hi]at I;cases I;have N:=z6w TT _ (z6o J);have D2:rs.length<=60:=by rw [<-Y,w9]at N;exact N
  have D:(refs rs).length=rs.length:=w9 _;have R:=b _ _ t1;refine !(zg R zD (!(zg R jc ⟨hp,!⟨.inl (SqL.of (b _ _ t2)),λl hX=> ?_⟩⟩)));refine zc (upd _ l _) rfl hX λH1 o x1=> ?_
  have s1:=b.trans o;have G:=t3.same s1;refine !(zg (s1 _ _ t1) ji ⟨rp,rfl,⟨_,SqL.of G.1⟩,?_⟩);refine jF (xs:=refs rs) (λj zs q=>zz H1 q/\∃qs:List (Addr×List Int),zs=refs qs/\qs.length=j/\(∀r∈qs,H1 r.1=none/\q r.1=some (.lst (r.2.map V.int)))/\qs.map (·.2)=(rs.take j).map (·.2)) ⟨zz.refl _,[],rfl,rfl,λ_ z=>(nomatch z),rfl⟩ ?_ ?_ ?_
  ·rintro j zs q a ⟨c,qs,rfl,hq,_⟩;rw [D]at a;exact⟨SqL.of (c _ _ G.1),zG (by rw [w9];lia)⟩
  ·rintro j y zs q a ⟨c,qs,rfl,hq,u,s⟩;have B:j < rs.length:=by
    have:=(we.mp a).1
    rwa [D]at this
   rw [z09 B]at a;cases a;refine !⟨_,!⟨.inl (SqL.of (c _ _ (G.2 _ (wG B)).2)),λl2 M=> ?_⟩⟩;have s4:=zJ M (.lst (rs[j].2.map V.int));refine⟨c.trans s4,qs ++ [(l2,rs[j].2)],by simp [refs],by rw [wb,hq];rfl,λr m=> ?_,?_⟩
   ·rcases wx.mp m with m | m
    ·exact⟨(u r m).1,s4 _ _ (u r m).2⟩
    ·rw [wu.mp m];exact⟨c.free M,zj⟩
   ·rw [wC,s,q9,wa B,wC]
    rfl
  ·rintro zs q ⟨c,qs,rfl,hq,u,s⟩ U O;rw [D,qB]at s;refine zc (upd _ U _) rfl O λH4 L x4=> ?_
   refine⟨(zq rfl),λn d=> ?_⟩;refine zc (upd _ n _) rfl d λH5 Z x5=> ?_
   have S:=c.trans (L.trans Z);have tM:=o.trans S;refine⟨b.trans tM,by rw [wb,hl];rfl,λj a=> ?_⟩;by_cases hG:j < i
   ·obtain⟨y,C,ty⟩:=t j hG;exact⟨y,by rw [Qt (by lia)];exact C,ty.same tM⟩
   ·have e:j=i:=by lia
    subst e;refine⟨_,by rw [Q7 (by lia),hl,Nat.sub_self];rfl,n,l,U,qs,rfl,x5,S _ _ x1,(kc O L x4 λr m=>(u r m).2).same Z,by rw [s];exact Y⟩
 ·rintro ys H' ⟨b,hl,t⟩ np aA;rw [X]at hl t;refine zc (upd _ np _) rfl aA λH1 o x1=> ?_
  refine fin np H1 (b.trans o) (zbN x1 hl λj a=> ?_);obtain⟨y,C,ty⟩:=t j a;exact⟨y,C,ty.same o⟩
inductive spKept (K:W.Frag) (vs:List V) (H:Hp) (Q:VK) (E:XK):Prop
 | mk:∀th tr hp tp,vs= [.ref hp,.ref tp]->TabOk th tr->jE th tr H hp->jE th tr H tp->Q (.bl true) H->spKept K vs H Q E
theorem zbF(T:TabOk th tr)(h:n∈tabs):(th n).length<=100/\∀r∈tr n,r.length<=100:=by
 have h1:=(jK T (q:= .table n) h).2;exact⟨h1,λr m=>by rw [T.rl n h r m];exact h1⟩
theorem z2x:FnScope ["_law_handed","_law_tables","_law_k"] ["_law_handed","_law_tables"] (zm z1B):=by walk_at "s"
theorem z6d(F:Fun K "_law_kept" "_law_kept" z1B f fd)(T:Txt K mg)(b:Kn P w K mg base 1 "_law_texts" ["_law_found","_law_due"] (spTexts K))(a:Kn P w K mg base 3 "_law_alike" ["_law_found","_law_due"] (spAlike K)):FnOk P w K mg base CX0 4 f fd ["_law_handed","_law_tables"] (spKept K):=by
 refine F.okB z2x (λvs H Q E h=> ?_) (λvs H Q E h=> ?_)
 ·obtain⟨th,tr,hp,tp,rfl,_⟩:=h
  rfl
 obtain⟨th,tr,hp,tp,rfl,TT,M,L,q⟩:=h;obtain⟨vs,c,N,C⟩:=z2W M;obtain⟨us,j,l,B⟩:=z2W L;intro ac A outer sh hr;refine⟨_,(ze (zF (cmT z14 (leN T.len (zf v0 zd)) (leN T.len (zf v1 zd)))
   (zh (zt yt))
   zu)
  (ze (foR (yi rfl T.range (zT (leN T.len (zf v1 zd)) zd)) (gnM 2 z2x)
   (ze (zF (z1Q (yF (jq (zQ j6 rfl T.isinstance wX (zl (ixL v0 v2) (zf (yn (v:= .ty "tuple") rfl T.tuple Qz rfl) zd))))) (cmT z14 (leN T.len (zl (ixL v0 v2) zd)) zb))
    (zh (zt yt))
    zu)
   (ze (zF (yF (jq (zV b hr.m (zl (ixT (ixL v0 v2) zb) (zl (ixT (ixL v1 v2) zb) zd)))))
    (zh (zt yt))
    zu)
   (ze (zF (yF (jq (zV a hr.m (zl (ixT (ixL v0 v2) zb) (zl (ixT (ixL v1 v2) zb) zd)))))
    (zh (zt yt))
    zu)
   (zh (zF (z1Q (yF (jq (zQ j6 rfl T.isinstance wX (zl (ixT (ixL v0 v2) zb) (zf (yn (v:= .ty "str") rfl T.str qX rfl) zd))))) (cmT z14 (ixT (ixL v0 v2) zb) (ixT (ixL v1 v2) zb)))
    (zh (zt yt))
    zu))))))
  (zh (zt yt)))),?_⟩
 generalize hK0:K=K1
 revert K1
 refine jo (by walk_at "cl") ?_;refine !⟨hp,!⟨.inl (SqL.of c),!⟨tp,!⟨.inl (SqL.of j),rfl,!?_⟩⟩⟩⟩;refine ifF (by rw [N,l];simp) ?_;refine !⟨tp,!⟨.inl (SqL.of j),!⟨by lia,by rw [l];decide,kJ (lo:=0) (n:=us.length) (λi σ H'=>∃x,σ= [some (.ref hp),some (.ref tp),x]/\H'=H) ⟨none,rfl,rfl⟩ ?_ ?_⟩⟩⟩
 ·rintro i σ H' hi ⟨x,rfl,rfl⟩;have s:i < 4:=by rw [<-l];exact hi
  obtain⟨v,J,p,h1,r1,O,rfl,e,G,X,y⟩:=C i s;obtain⟨u,Y,p',R,I,U,rfl,t,D,Z,xx⟩:=B i s;have d:atI vs (0 + (i:Int))=some (V.ref p):=by rw [w0D];exact zX J
  have o:atI us (0 + (i:Int))=some (V.ref p'):=by rw [w0D];exact zX Y
  have z:=z6o s;obtain⟨wn,wr⟩:=zbF TT z;have S:=z6w TT _ z;refine !(!(zw c d ⟨_,_,_,!⟨TyOf.tup e,jZ,!⟨_,(!(!(zw c d ⟨p,!⟨.inr (SqT.of e),rfl,!⟨rfl,rfl⟩⟩⟩))),?_⟩⟩⟩));refine ifF (by rfl) ?_;refine !(!(zw c d (zg e jc (!(!(zw j o (zg t jc ⟨h1,R,_,rfl,G,SqL.of D,by lia,!?_⟩)))))));refine ifF (by rfl) ?_;refine !(!(zw c d (zg e ji (!(!(zw j o (zg t ji ⟨r1,I,O,U,rfl,X,Z,by rw [y,xx],by rw [<-y,w9]at S;lia,λr m=>by have:=wr r.2 (by rw [<-y];exact qA.mpr ⟨r,m,rfl⟩);lia,!?_⟩)))))));refine ifF (by rfl) ?_;refine !(!(zw c d (zg e zD ⟨_,_,_,!⟨TyOf.str _,jZ,!⟨_,(!(!(zw c d (zg e zD (!(!(zw j o (zg t zD ⟨rfl,!⟨rfl,rfl⟩⟩)))))))),?_⟩⟩⟩)));refine ifF (by simp) ?_;exact !rfl
 ·rintro σ H' ⟨x,rfl,rfl⟩;exact q
theorem z2Y(h:∀s∈c.cols,s∈hs):c.ok hs:=by
 have side:∀{a:Side},(∀s∈a.cols,s∈hs)->a.ok hs:=λ{a} h=>by
  cases a with
  | nm x=>exact h x (wu.mpr rfl)
  | nu i=>trivial
 induction c with
 | less a b=>exact⟨side λs m=>h s (qe _ m),side λs m=>h s (wF _ m)⟩
 | same a b=>exact⟨side λs m=>h s (qe _ m),side λs m=>h s (wF _ m)⟩
 | no c j=>exact j h
 | an c d f e=>exact⟨f λs m=>h s (qe _ m),e λs m=>h s (wF _ m)⟩
 | or c d f e=>exact⟨f λs m=>h s (qe _ m),e λs m=>h s (wF _ m)⟩
theorem z65{gs:List Str}{r t:List Int}(h:∀s∈c.cols,r.getD (hs.idxOf s) 0=t.getD (gs.idxOf s) 0):ev hs r c=ev gs t c:=by
 have side:∀{a:Side},(∀s∈a.cols,r.getD (hs.idxOf s) 0=t.getD (gs.idxOf s) 0)->num hs r a=num gs t a:=λ{a} h=>by
  cases a with
  | nm x=>exact h x (wu.mpr rfl)
  | nu i=>rfl
 induction c with
 | less a b=>simp only [ev,side λs m=>h s (qe _ m),side λs m=>h s (wF _ m)]
 | same a b=>simp only [ev,side λs m=>h s (qe _ m),side λs m=>h s (wF _ m)]
 | no c j=>simp only [ev,j h]
 | an c d f e=>simp only [ev,f λs m=>h s (qe _ m),e λs m=>h s (wF _ m)]
 | or c d f e=>simp only [ev,f λs m=>h s (qe _ m),e λs m=>h s (wF _ m)]
variable{y:List Int}
theorem z8B(ok:c.ok hq)(a:x.length=hq.length):ev (hq ++ hr) (x ++ y) c=ev hq x c:=
 z65 λs m=>by
  have hs:=z1a ok s m;have hl:=qP.mpr hs;rw [List.idxOf_append,wU hs,wo,wo,Qt (by lia)]
theorem z6t(b:∀n∈hq,n∉hr)(ok:c.ok hr)(a:x.length=hq.length):ev (hq ++ hr) (x ++ y) c=ev hr y c:=
 z65 λs m=>by
  have hs:=z1a ok s m;rw [List.idxOf_append,wM λz=>b s z hs,wo,wo,Q7 (by lia),a,Nat.add_sub_cancel]
theorem zbe{r:List Int}(ok:c.ok ns):ev ns (ns.map λn=>r.getD (hs.idxOf n) 0) c=ev hs r c:=
 z65 λs m=>by
  have hm:=z1a ok s m;have hl:=qP.mpr hm;rw [wo,wO,wa hl,List.getElem_idxOf]
  rfl
theorem z1D{key:List Int->Int}:∀{L M:List (List Int)},L.Pairwise (λa b=>key a<=key b)->M.Pairwise (λa b=>key a<=key b)->(∀k,L.filter (λr=>decide (key r=k))=M.filter λr=>decide (key r=k))->L=M
 | [],[],_,_,_=>rfl
 | [],b :: M,_,_,h=>by
  have:=h (key b);rw [qN (by simp)]at this;cases this
 | a :: L,[],_,_,h=>by
  have:=h (key a);rw [qN (by simp)]at this;cases this
 | a :: L,b :: M,p,q,h=>by
  have lo:∀{x y:List Int} {N:List (List Int)},(y :: N).Pairwise (λa b=>key a<=key b)->key x < key y->(y :: N).filter (λr=>decide (key r=key x))= []:=λ{x y N} p d=>by
   refine w0i.mpr λr m=> ?_
   rcases wE.mp m with rfl | m
   ·simp;lia
   ·have:=(List.pairwise_cons.mp p).1 r m;simp;lia
  have c:key a=key b:=by
   rcases Int.lt_trichotomy (key a) (key b)with z | z | z
   ·have:=h (key a);rw [lo q z,qN (by simp)]at this;cases this
   ·exact z
   ·have:=h (key b);rw [lo p z,qN (by simp)]at this;cases this
  have e:a=b:=by
   have:=h (key a);rw [qN (by simp),qN (by simp [c])]at this;exact(List.cons.inj this).1
  subst e;rw [z1D (List.pairwise_cons.mp p).2 (List.pairwise_cons.mp q).2 λk=> ?_];have:=h k;by_cases dU:key a=k
  ·rw [qN (by simp [dU]),qN (by simp [dU])]at this;exact(List.cons.inj this).2
  ·rw [w03 (by simp [dU]),w03 (by simp [dU])]at this;exact this
theorem z2X(s:Nat)(rows:List (List Int)):(z06 s rows).Pairwise λa b=>a.getD s 0<=b.getD s 0:=by
 unfold z06;rw [List.pairwise_map];refine(z7B _ _).imp λ{i j} h=> ?_
 have:=qi h;unfold z3m at this
 lia
theorem z9t(rows:List (List Int)):(List.range rows.length).map (λi=>rows.getD i [])=rows:=by
 apply List.ext_getElem
 ·simp
 ·intro i h1 h2;simp at h1;simp [wo,h1]
theorem z33(s:Nat)(rows:List (List Int))(k:Int):(z06 s rows).filter (λr=>decide (r.getD s 0=k))=rows.filter λr=>decide (r.getD s 0=k):=by
 unfold z06;rw [w0h];have e:(z2j (z3m rows s) rows.length).filter ((λr:List Int=>decide (r.getD s 0=k)) ∘ λi=>rows.getD i [])=(List.range rows.length).filter ((λr:List Int=>decide (r.getD s 0=k)) ∘ λi=>rows.getD i []):=by
  refine List.Perm.eq_of_pairwise (le:=λi j=>i<=j) (λa b _ _ h1 h2=>Nat.le_antisymm h1 h2) ?_ ?_ ((z0L _ _).filter _)
  ·have:=((z7B (z3m rows s) rows.length).filter ((λr:List Int=>decide (r.getD s 0=k)) ∘ λi=>rows.getD i []));refine List.Pairwise.imp_of_mem (λ{i j} hi c h=> ?_) this;have h:=qi h;have hi:(rows.getD i []).getD s 0=k:=qi (Qp.mp hi).2;have c:(rows.getD j []).getD s 0=k:=qi (Qp.mp c).2;unfold z3m at h
   lia
  ·exact((List.pairwise_lt_range (n:=rows.length)).imp λh=>w1t h).filter _
 rw [e,<-w0h,z9t]
theorem z62(s:Nat)(rows:List (List Int))(p:List Int->Bool):(z06 s rows).filter p=z06 s (rows.filter p):=
 z1D (key:=λr=>r.getD s 0) ((z2X s rows).filter p) (z2X s _) λk=>by
  rw [z33,w0O,w0O];have c:∀l:List (List Int),(l.filter λr=>decide (r.getD s 0=k) && p r)=(l.filter λr=>decide (r.getD s 0=k)).filter p:=λl=>by
   rw [w0O];exact w0C λ_ _=>Bool.and_comm _ _
  rw [c,c,z33]
theorem z7E(s:Nat)(rows:List (List Int)):z06 s (z06 s rows)=z06 s rows:=
 z1D (key:=λr=>r.getD s 0) (z2X s _) (z2X s _) λk=>by rw [z33]
theorem z4y{xs:List (List Int)}{p q:List Int->Bool}(h:∀x∈xs,∀y∈ys,p (x ++ y)=q x):(pairs xs ys).filter p=pairs (xs.filter q) ys:=by
 unfold pairs
 induction xs with
 | nil=>rfl
 | cons x xs a=>
  rw [w0B,w0r,a λz hz=>h z (wY _ hz),w0h];have e:ys.filter (p ∘ λy=>x ++ y)=ys.filter λ_=>q x:=w0C λy b=>h x qE y b
  rw [e];cases hq:q x with
  | true=>rw [qN hq,w0B,w19.mpr λ_ _=>rfl]
  | false=>rw [w03 (by simp [hq]),w0i.mpr λ_ _=>by simp];rfl
theorem z3j{xs:List (List Int)}{p q:List Int->Bool}(h:∀x∈xs,∀y∈ys,p (x ++ y)=q y):(pairs xs ys).filter p=pairs xs (ys.filter q):=by
 unfold pairs
 induction xs with
 | nil=>rfl
 | cons x xs a=>
  rw [w0B,w0r,a λz hz=>h z (wY _ hz),w0h,w0B]
  congr 2
  exact w0C λy b=>h x qE y b
noncomputable def jU(ns hs:List Str):Bool:=ns.all λn=>decide (n∈hs)
theorem jv:jU ns hs=true↔∀n∈ns,n∈hs:=by simp [jU]
noncomputable def yG(th:Str->List Str)(x y:Str)(q r:Qn):Qn:=if x∈za th q then .join x y q r else .join y x q r
noncomputable def jz(th:Str->List Str)(c:Cond)(mk:Qn->Qn->Qn)(a:Bool)(q r:Qn):Option Qn:=
 if jU c.cols (za th q)=true then some (mk (.pick c q) r)
 else if jU c.cols (za th r)=true then some (mk q (.pick c r))
 else match a,c with
  | true,.same (.nm x) (.nm y)=>some (yG th x y q r)
  | _,_=>none
noncomputable def z6X(th:Str->List Str)(c:Cond):Qn->Option Qn
 | .sort a q=>some (.sort a (.pick c q))
 | .cols ns q=>some (.cols ns (.pick c q))
 | .both q r=>some (.both (.pick c q) (.pick c r))
 | .pair q r=>jz th c .pair true q r
 | .join a b q r=>jz th c (.join a b) false q r
 | _=>none
noncomputable def jB(th:Str->List Str)(c:Cond)(q:Qn):Option Qn:=
 match c with
 | .an a b=>some (.pick a (.pick b q))
 | c=>z6X th c q
noncomputable def beneath:Qn->Qn
 | .pick _ q=>beneath q
 | q=>q
noncomputable def z4z:Cond->Bool
 | .an _ _=>true
 | _=>false
noncomputable def yw(th:Str->List Str):Qn->Option Qn
 | .pick c q=>match q with
  | .pick d r=>if z4z c=true then jB th c (.pick d r)else if(jB th c (beneath r)).isSome=true then some (.pick d (.pick c r))else none
  | q=>jB th c q
 | .first n q=>match q with
  | .first m r=>some (.first (min n m) r)
  | .cols ns r=>some (.cols ns (.first n r))
  | _=>none
 | .cols ns q=>match q with
  | .cols _ r=>some (.cols ns r)
  | _=>none
 | .sort a q=>match q with
  | .sort b r=>if b=a then some (.sort b r)else none
  | _=>none
 | _=>none
structure Eqv(th:Str->List Str)(tr:Str->List (List Int))(q q':Qn):Prop where
 h:za th q'=za th q
 r:rowsOf th tr q'=rowsOf th tr q
 wf:wfQ th q'
 sub:z25 th tr q->z25 th tr q'
inductive Prt (th:Str->List Str) (c:Cond) (mk:Qn->Qn->Qn) (b:Bool) (q r:Qn):Qn->Prop
 | l:jU c.cols (za th q)=true->Prt th c mk b q r (mk (.pick c q) r)
 | r:jU c.cols (za th r)=true->Prt th c mk b q r (mk q (.pick c r))
 | j:∀x y:Str,b=true->¬jU c.cols (za th q)=true->¬jU c.cols (za th r)=true->c= .same (.nm x) (.nm y)->Prt th c mk b q r (yG th x y q r)
theorem z1h(e:jz th c mk b q r=some q'):Prt th c mk b q r q':=by
 unfold jz at e;split at e
 ·cases e;exact .l ‹_›
 ·split at e
  ·cases e;exact .r ‹_›
  ·split at e <;> cases e
   exact .j _ _ rfl ‹_› ‹_› rfl
theorem z1l(e:jB th c q=some q'):(∃a b,c= .an a b/\q'= .pick a (.pick b q))\/z6X th c q=some q':=by
 cases c with
 | an a b=>cases e;exact .inl ⟨_,_,rfl,rfl⟩
 | _=>exact .inr e
inductive Trn (th:Str->List Str):Qn->Qn->Prop
 | s:∀c r q',jB th c r=some q'->Trn th (.pick c r) q'
 | p:∀c d r,(jB th c (beneath r)).isSome=true->Trn th (.pick c (.pick d r)) (.pick d (.pick c r))
 | f:∀n m r,Trn th (.first n (.first m r)) (.first (min n m) r)
 | c:∀n l r,Trn th (.first n (.cols l r)) (.cols l (.first n r))
 | l:∀l m r,Trn th (.cols l (.cols m r)) (.cols l r)
 | o:∀a r,Trn th (.sort a (.sort a r)) (.sort a r)
theorem z1T(e:yw th q=some q'):Trn th q q':=by
 cases q with
 | pick c r=>
  cases r with
  | pick d r=>
   unfold yw at e;dsimp only at e;split at e
   ·exact .s _ _ _ e
   ·split at e <;> cases e
    exact .p _ _ _ ‹_›
  | _=>exact .s _ _ _ e
 | sort a r=>
  cases r with
  | sort b r=>
   unfold yw at e;dsimp only at e;split at e <;> cases e
   subst b;exact .o _ _
  | _=>cases e
 | first n r | cols n r=>cases r <;> cases e <;> constructor
 | _=>cases e
theorem zcR(X:List (List Int))(p s:List Int->Bool):(X.filter p).filter s=(X.filter s).filter p:=by
 simp only [w0O,Bool.and_comm]
theorem zad(T:TabOk th tr)(sz:c.size<=20)(h:c.ok (za th q ++ za th r))(w:wfQ th (.pair q r))(e:jz th c .pair true q r=some q'):Eqv th tr (.pick c (.pair q r)) q':=by
 obtain⟨d,l,b,f⟩:=w;have j:=yh T b;rcases z1h e with h1 | h2 | ⟨x,y,_,h1,h2,rfl⟩
 ·have ok:=z2Y (jv.mp h1);exact⟨rfl,(z4y λx a y _=>z8B ok (j x a)).symm,⟨d,l,⟨ok,sz,b⟩,f⟩,λs=>⟨s.1,s.2.1,wV (QD _ (qz _ _)) s.2.2⟩⟩
 ·have ok:=z2Y (jv.mp h2);exact⟨rfl,(z3j λx a y _=>z6t d ok (j x a)).symm,⟨d,l,b,⟨ok,sz,f⟩⟩,λs=>⟨s.1,s.2.1,wV (Qv _ (qz _ _)) s.2.2⟩⟩
 ·have a:=wx.mp (show x∈_ from h.1);have i:=wx.mp (show y∈_ from h.2);simp only [jv,Cond.cols,Side.cols,wx,wu,forall_eq_or_imp,forall_eq]at h1 h2;unfold yG;by_cases hq:x∈za th q
  ·rw [wU hq];exact⟨rfl,rfl,⟨hq,i.resolve_left λz=>h1 ⟨hq,z⟩,d,l,b,f⟩,λs=>s⟩
  ·rw [wM hq];have a:=a.resolve_left hq;exact⟨rfl,w0C λz _=>w15.mpr ⟨Eq.symm,Eq.symm⟩,⟨i.resolve_right λz=>h2 ⟨a,z⟩,a,d,l,b,f⟩,λs=>s⟩
theorem z9m(T:TabOk th tr){a b:Str}(sz:c.size<=20)(p:wfQ th (.join a b q r))(e:jz th c (.join a b) false q r=some q'):Eqv th tr (.pick c (.join a b q r)) q':=by
 obtain⟨ha,j,i,l,f,o⟩:=p;have n:=yh T f;rcases z1h e with h1 | h2 | ⟨_,_,h⟩
 ·have ok:=z2Y (jv.mp h1);exact⟨rfl,((zcR _ _ _).trans (Qa (List.filter _) (z4y λx d y _=>z8B ok (n x d)))).symm,⟨ha,j,i,l,⟨ok,sz,f⟩,o⟩,λs=>⟨s.1,s.2.1,wV (QD _ (qz _ _)) s.2.2⟩⟩
 ·have ok:=z2Y (jv.mp h2);exact⟨rfl,((zcR _ _ _).trans (Qa (List.filter _) (z3j λx d y _=>z6t i ok (n x d)))).symm,⟨ha,j,i,l,f,⟨ok,sz,o⟩⟩,λs=>⟨s.1,s.2.1,wV (Qv _ (qz _ _)) s.2.2⟩⟩
 ·cases h
theorem zai(T:TabOk th tr)(w:wfQ th (.pick c q))(e:jB th c q=some q'):Eqv th tr (.pick c q) q':=by
 obtain⟨f,sz,d⟩:=w;rcases z1l e with⟨a,b,rfl,rfl⟩ | e
 ·have h:a.size<=20/\b.size<=20:=by simp only [Cond.size]at sz;lia
  exact⟨rfl,w0O,⟨f.1,h.1,f.2,h.2,d⟩,λs=>s⟩
 cases q with
 | sort a r=>cases e;exact⟨rfl,(z62 _ _ _).symm,⟨d.1,f,sz,d.2⟩,λs=>s⟩
 | cols ns r=>
  cases e;refine⟨rfl,?_,⟨d.1,d.2.1,z2Y λs m=>d.2.1 s (z1a f s m),sz,d.2.2⟩,λs=>s⟩
  show List.map _ (List.filter _ _)=List.filter _ (List.map _ _)
  rw [w0h]
  congr 1
  exact w0C λx _=>(zbe f).symm
 | both r s=>
  cases e;have i:c.ok (za th r):=f;refine⟨rfl,?_,⟨d.1,⟨i,sz,d.2.1⟩,⟨d.1 ▸ i,sz,d.2.2⟩⟩,λz=>⟨z.1,z.2.1,wV (Nat.add_le_add (qz _ _) (qz _ _)) z.2.2⟩⟩;simp only [rowsOf,za,w0r,d.1]
 | pair r s=>exact zad T sz f d e
 | join a b r s=>exact z9m T sz d e
 | _=>cases e
theorem z48(T:TabOk th tr)(w:wfQ th q)(e:yw th q=some q'):Eqv th tr q q':=by
 rcases z1T e with⟨c,r,_,f⟩ | ⟨c,d,r,_⟩ | ⟨n,m,r⟩ | ⟨n,l,r⟩ | ⟨l,m,r⟩ | ⟨a,r⟩
 ·exact zai T w f
 ·exact⟨rfl,zcR _ _ _,⟨w.2.2.1,w.2.2.2.1,w.1,w.2.1,w.2.2.2.2⟩,λs=>s⟩
 ·have hn:0<=n:=w.1;have hm:0<=m:=w.2.1;refine⟨rfl,?_,⟨by lia,w.2.2⟩,λs=>s⟩
  show List.take _ _=List.take _ (List.take _ _)
  rw [List.take_take]
  congr 1
  lia
 ·exact⟨rfl,w0G,⟨w.2.1,w.2.2.1,w.1,w.2.2.2⟩,λs=>s⟩
 ·refine⟨rfl,?_,⟨w.1,λn m=>w.2.2.2.1 n (w.2.1 n m),w.2.2.2.2⟩,λs=>s⟩
  show List.map _ _=List.map _ (List.map _ _)
  rw [w0U];refine w1a λx _=>w1a λn hn=> ?_
  have hm:n∈m:=w.2.1 n hn;have hl:=qP.mpr hm
  show _=(m.map _).getD (m.idxOf n) 0
  rw [wo (l:=m.map _),wO,wa hl,List.getElem_idxOf]
  rfl
 ·exact⟨rfl,(z7E _ _).symm,w.2,λs=>s⟩
def nf(th:Str->List Str)(q:Qn):Prop:=∀r∈post q,yw th r=none
theorem z2t(h:∀c r,q≠ .pick c r):beneath q=q:=by
 cases q with
 | pick c q=>exact absurd rfl (h c q)
 | _=>rfl
theorem z5f(h:z4z c=true):(jB th c q).isSome=true:=by
 cases c <;> first | rfl | cases h
theorem z6Z{d:Cond}(h:yw th (.pick d r)=none):(jB th d (beneath r)).isSome=false:=by
 cases r with
 | pick e s=>
  unfold yw at h;dsimp only at h;split at h
  ·next a=>
   have:=z5f (th:=th) (q:= .pick e s) a;rw [h]at this;cases this
  ·split at h
   ·cases h
   ·exact qW.mpr ‹_›
 | _=>
  have h:jB th d _=none:=h;rw [z2t (by intro c r e;cases e),h]
  rfl
noncomputable def zN:Qn->Nat->Qn->Qn
 | .table n,_,_=> .table n
 | .pick c _,_,k=> .pick c k
 | .cols ns _,_,k=> .cols ns k
 | .pair q r,i,k=>if i=0 then .pair k r else .pair q k
 | .join a b q r,i,k=>if i=0 then .join a b k r else .join a b q k
 | .both q r,i,k=>if i=0 then .both k r else .both q k
 | .first n _,_,k=> .first n k
 | .group a b n s _,_,k=> .group a b n s k
 | .sort a _,_,k=> .sort a k
theorem set_same{k:Qn}(a:(kids p)[i]? =some k):zN p i k=p:=by
 cases p <;> rcases i with _ | _ | i <;> cases a <;> rfl
theorem z1P{k:Qn}(h:i < (kids p).length):kids (zN p i k)=(kids p).set i k:=by
 cases p <;> rcases i with _ | _ | i <;> first | rfl | (simp only [kids,wJ,Qe]at h;lia)
theorem set_set{k l:Qn}(h:i < (kids p).length):zN (zN p i k) i l=zN p i l:=by
 cases p <;> rcases i with _ | _ | i <;> rfl
theorem z4g{k:Qn}(h:i < (kids p).length):(kids (zN p i k))[i]? =some k:=by
 rw [z1P h,w0L h]
theorem Eqv.trans{s:Qn}(a:Eqv th tr q r)(b:Eqv th tr r s):Eqv th tr q s:=⟨b.h.trans a.h,b.r.trans a.r,b.wf,λz=>b.sub (a.sub z)⟩
def Eqv.refl(w:wfQ th q):Eqv th tr q q:=⟨rfl,rfl,w,λz=>z⟩
theorem z3f{k l:Qn}(e:za th k=za th l):za th (zN p i k)=za th (zN p i l):=by
 cases p <;> rcases i with _ | i <;> simp [zN,za,e]
theorem zcj{k:Qn}(w:wfQ th p)(c:(kids p)[i]? =some k)(E:Eqv th tr k k'):Eqv th tr p (zN p i k'):=by
 obtain⟨a,b,d,es⟩:=E;cases p <;> rcases i with _ | _ | i <;> cases c <;> simp only [wfQ]at w <;> refine⟨by simp [zN,za,a],by simp [zN,rowsOf,a,b],by simp_all [zN,wfQ],by simp_all [zN,z25]⟩
theorem zdS(e:yw th q=none)(h:∀k∈kids q,nf th k):nf th q:=λr m=>by
 rw [z0p]at m;rcases wx.mp m with m | m
 ·obtain⟨k,a,m⟩:=List.mem_flatMap.mp m;exact h k a r m
 ·rw [wu.mp m];exact e
noncomputable def plug:List (Qn×Nat)->Qn->Qn
 | [],q=>q
 | (p,i) :: c,q=>plug c (zN p i q)
def z02(th:Str->List Str):List (Qn×Nat)->Qn->Prop
 | [],_=>True
 | (p,i) :: c,q=>i < (kids p).length/\za th (zN p i q)=za th p/\z02 th c (zN p i q)
def z5l:∀{c:List (Qn×Nat)} {q q':Qn},za th q'=za th q->z02 th c q->z02 th c q'
 | [],_,_,_,_=>trivial
 | (p,i) :: c,_,_,e,h=>⟨h.1,(z3f e).trans h.2.1,z5l (z3f e) h.2.2⟩
theorem zaj{c:List (Qn×Nat)}{k:Qn}(a:(kids p)[i]? =some k)(h:z02 th c p):z02 th ((p,i) :: c) k:=
 ⟨(we.mp a).1,by rw [set_same a],by rw [set_same a];exact h⟩
theorem z9u{c:List (Qn×Nat)}{k:Qn}(a:(kids p)[i]? =some k):plug ((p,i) :: c) k=plug c p:=by
 show plug c (zN p i k)=_
 rw [set_same a]
def z21:∀{c:List (Qn×Nat)} {q:Qn},z02 th c q->wfQ th (plug c q)->wfQ th q
 | [],_,_,w=>w
 | (p,i) :: c,q,h,w=>z8M (z21 h.2.2 w) q (qD (z4g h.1))
theorem z6s:∀{c:List (Qn×Nat)} {q q':Qn},z02 th c q->wfQ th (plug c q)->Eqv th tr q q'->Eqv th tr (plug c q) (plug c q')
 | [],_,_,_,_,E=>E
 | (p,i) :: c,q,q',h,w,E=>by
  have a:=zcj (z21 h.2.2 w) (z4g h.1) E;rw [set_set h.1]at a;exact z6s (c:=c) h.2.2 w a
noncomputable def wt:Qn->Nat
 | .table _=>1
 | .pick c q=>c.size * zv q + wt q
 | .cols _ q | .first _ q | .group _ _ _ _ q | .sort _ q=>wt q + 1
 | .pair q r | .join _ _ q r | .both q r=>wt q + wt r + 1
theorem z5U(q:Qn):(post q).length<=wt q:=by
 induction q
 case' pick c q h=>have h2:1 * 1<=c.size * zv q:=w0K c.size_pos (yp q)
 all_goals
  simp only [post,wt,wb,wD,Qe]
  lia
theorem z9c{x y:Str}:yG th x y q r= .join x y q r\/yG th x y q r= .join y x q r:=by
 unfold yG;split <;> simp
theorem z82(hm:∀x y,zv (mk x y)=zv x + zv y/\wt (mk x y)=wt x + wt y + 1)(e:jz th c mk b q r=some q'):zv q'=zv q + zv r/\wt q'<=c.size * (zv q + zv r) + (wt q + wt r + 1):=by
 rw [Qk];rcases z1h e with _ | _ | ⟨x,y⟩
 ·rw [(hm _ _).1,(hm _ _).2];exact⟨rfl,by simp only [wt];lia⟩
 ·rw [(hm _ _).1,(hm _ _).2];exact⟨rfl,by simp only [wt];lia⟩
 ·rcases z9c (th:=th) (x:=x) (y:=y) (q:=q) (r:=r)with h | h <;> rw [h] <;> exact⟨rfl,by simp only [wt];lia⟩
theorem zbs(e:jB th c q=some q'):zv q'=zv q/\wt q'<=c.size * zv q + wt q:=by
 rcases z1l e with⟨a,b,rfl,rfl⟩ | e
 ·refine⟨rfl,?_⟩;have:(Cond.an a b).size * zv q=a.size * zv q + b.size * zv q + zv q:=by
   show(a.size + b.size + 1) * _=_
   rw [QY,QY,w1b]
  rw [this];simp only [wt,zv]
  lia
 cases q with
 | pair r s=>exact z82 (mk:= .pair) (b:=true) (λ_ _=>⟨rfl,rfl⟩) e
 | join a b r s=>exact z82 (mk:= .join a b) (b:=false) (λ_ _=>⟨rfl,rfl⟩) e
 | _=>cases e <;> exact⟨rfl,by simp only [wt,zv,Qk];lia⟩
theorem z8v(e:yw th q=some q'):zv q'=zv q/\wt q'<=wt q:=by
 rcases z1T e with⟨c,r,_,f⟩ | ⟨c,d,r,_⟩ | ⟨n,m,r⟩ | ⟨n,l,r⟩ | ⟨l,m,r⟩ | ⟨a,r⟩
 ·exact zbs f
 all_goals exact⟨rfl,by simp only [wt,zv];lia⟩
theorem zdr{k:Qn}(a:(kids p)[i]? =some k)(hl:zv k'=zv k)(h:wt k'<=wt k):zv (zN p i k')=zv p/\wt (zN p i k')<=wt p:=by
 cases p <;> rcases i with _ | _ | i <;> cases a <;> simp only [zN,zv,wt,hl,w0M,w1g,Nat.one_ne_zero,w0v] <;> lia
theorem z9M{k:Qn}(a:(kids p)[i]? =some k):(post k).length + 1<=(post p).length:=by
 cases p <;> rcases i with _ | _ | i <;> cases a <;> simp only [post,wb,wD] <;> lia
theorem z5s:∀{c:List (Qn×Nat)} {q:Qn},z02 th c q->(post q).length + c.length<=(post (plug c q)).length
 | [],_,_=>ww _
 | (p,i) :: c,q,h=>by
  have a:=z9M (z4g (k:=q) h.1);have b:=z5s (c:=c) h.2.2
  show _ + (c.length + 1)<=(post (plug c (zN p i q))).length
  lia
theorem z52:∀{c:List (Qn×Nat)} {p q:Qn} {i:Nat},plug (c ++ [(p,i)]) q=zN p i (plug c q)
 | [],_,_,_=>rfl
 | (p',j) :: c,p,q,i=>z52 (c:=c) (q:=zN p' j q)
noncomputable def rest(p:Qn)(j:Nat):Nat:=((kids p).drop j).foldr (λk n=>3 * (post k).length + n) 0
theorem z80{k:Qn}(a:(kids p)[i]? =some k):rest p i=3 * (post k).length + rest p (i + 1):=by
 unfold rest;obtain⟨hi,e⟩:=we.mp a;rw [List.drop_eq_getElem_cons hi,e]
 rfl
theorem z9o:rest p (i + 1)<=rest p i:=by
 by_cases h:i < (kids p).length
 ·rw [z80 (wa h)];lia
 ·unfold rest;rw [List.drop_eq_nil_of_le (by lia),List.drop_eq_nil_of_le (by lia)];exact ww _
theorem zbu(h:i<=j):rest p j<=rest p i:=by
 induction h with
 | refl=>exact ww _
 | step _ a=>exact wV z9o a
theorem za9(k:Qn):rest k 0 + 3=3 * (post k).length:=by
 cases k <;> simp only [rest,kids,post,w13,List.foldr_cons,List.foldr_nil,wb,wD] <;> lia
theorem zbc{k:Qn}(h:i < (kids p).length):rest (zN p i k) (i + 1)=rest p (i + 1):=by
 unfold rest;rw [z1P h,List.drop_set_of_lt (w0m i)]
noncomputable def budget(c:List (Qn×Nat)):Nat:=c.foldr (λx n=>2 + rest x.1 (x.2 + 1) + n) 0
theorem z3X{d1 d2 l1 l2:Nat}:d1 * l1 + d2 * l2<=(max d1 d2 + 1) * (l1 + l2):=by
 have b:d1 * l1<=max d1 d2 * l1:=QD _ (Nat.le_max_left _ _);have a:d2 * l2<=max d1 d2 * l2:=QD _ (Nat.le_max_right _ _);rw [QY,w1b,Qk]
 lia
theorem zdT(h:okQ th q):wt q<=(post q).length + 6 * (depth q * zv q):=by
 induction q
 case' pick c q i=>have:c.size * zv q<=6 * zv q:=QD _ h.2.1;have:=i h.2.2
 case' cols i=>have:=i h.2.2.2
 case' first i=>have:=i h.2
 case' group i=>have:=i h.2.2.2.2.2
 case' sort i=>have:=i h.2
 case' pair q r i j=>have:=i h.2.1;have:=j h.2.2;have:=z3X (d1:=depth q) (d2:=depth r) (l1:=zv q) (l2:=zv r)
 case' join q r i j=>have:=i h.2.2.2.1;have:=j h.2.2.2.2;have:=z3X (d1:=depth q) (d2:=depth r) (l1:=zv q) (l2:=zv r)
 case' both q r i j=>have:=i h.2.1;have:=j h.2.2;have:=z3X (d1:=depth q) (d2:=depth r) (l1:=zv q) (l2:=zv r)
 case' pair | join | both=>simp only [wt,post,depth,zv,wb,wD]
 all_goals
  try simp only [wt,post,depth,zv,wb,wD,Qe,QY,w1b,Qk]
  lia
noncomputable def held(th:Str->List Str)(d:Cond):Qn->Bool
 | .pair q r=>(jB th d (.pair q r)).isNone
 | .join a b q r=>(jB th d (.join a b q r)).isNone
 | _=>false
noncomputable def k7:Qn->Nat
 | .table _=>0
 | .cols _ q=>k7 q + 1
 | .pick _ q | .sort _ q | .first _ q | .group _ _ _ _ q=>k7 q
 | .pair q r | .join _ _ q r | .both q r=>k7 q + k7 r
noncomputable def nu(th:Str->List Str):Qn->Nat
 | .table _=>0
 | .pick c q=>(if held th c (beneath q)=true then 0 else c.size * wt q) + c.size * c.size * zv q + nu th q
 | .cols _ q | .sort _ q | .group _ _ _ _ q=>nu th q + 1
 | .first _ q=>nu th q + 1 + k7 q
 | .pair q r | .join _ _ q r | .both q r=>nu th q + nu th r + 1
theorem z5x{mk':Qn->Qn->Qn}(h1:za th q=za th q')(h2:za th r=za th r'):(jz th c mk b q r).isNone=(jz th c mk' b q' r').isNone:=by
 unfold jz;rw [h1,h2];split
 ·rfl
 ·split
  ·rfl
  ·split <;> rfl
theorem z1Y{d:Cond}(h1:za th q=za th q')(h2:za th r=za th r'):held th d (.pair q r)=held th d (.pair q' r'):=by
 cases d <;> first | rfl | exact z5x (mk:= .pair) (mk':= .pair) (b:=true) h1 h2
theorem z24{d:Cond}{a b:Str}(h1:za th q=za th q')(h2:za th r=za th r'):held th d (.join a b q r)=held th d (.join a b q' r'):=by
 cases d <;> first | rfl | exact z5x (mk:= .join a b) (mk':= .join a b) (b:=false) h1 h2
theorem zbH{d:Cond}{a b:Str}(h:held th d (.pair q r)=true):held th d (.join a b q r)=true:=by
 have go:(jz th d .pair true q r).isNone=true->(jz th d (.join a b) false q r).isNone=true:=λh=>by
  unfold jz at h ⊢;split
  ·next x=>rw [wU x]at h;cases h
  ·next x=>
   rw [wM x]at h;split
   ·next y=>rw [wU y]at h;cases h
   ·rfl
 cases d <;> first | cases h | exact go h
def Hld(th:Str->List Str)(q q':Qn):Prop:=∀d,held th d (beneath q)=true->held th d (beneath q')=true
theorem zaS{k:Qn}{d:Cond}(h:za th k=za th k'):held th d (zN p i k)=held th d (zN p i k'):=by
 cases p with
 | pair q r=>
  by_cases e:i=0
  ·simp only [zN,e,w0M];exact z1Y h rfl
  ·simp only [zN,e,w0v];exact z1Y rfl h
 | join a b q r=>
  by_cases e:i=0
  ·simp only [zN,e,w0M];exact z24 h rfl
  ·simp only [zN,e,w0v];exact z24 rfl h
 | both q r=>by_cases e:i=0 <;> simp only [zN,e,w0M,w0v] <;> rfl
 | _=>rfl
theorem zb0(t:Trn th q q'):Hld th q q':=by
 intro d h;rcases t with⟨c,r,_,f⟩ | ⟨c,e,r,_⟩ | ⟨n,m,r⟩ | ⟨n,l,r⟩ | ⟨l,m,r⟩ | ⟨a,r⟩
 ·rcases z1l f with⟨a,b,rfl,rfl⟩ | f
  ·exact h
  cases r with
  | pair r s=>
   rcases z1h f with h1 | h2 | ⟨x,y,_,h1,h2,rfl⟩
   ·exact(z1Y (q:= .pick c r) (r:=s) (q':=r) (r':=s) rfl rfl).trans h
   ·exact(z1Y (q:=r) (r:= .pick c s) (q':=r) (r':=s) rfl rfl).trans h
   ·unfold yG;split <;> exact zbH h
  | join a b r s=>
   rcases z1h (mk:= .join a b) (b:=false) f with h1 | h2 | ⟨_,_,h⟩
   ·exact(z24 (q:= .pick c r) (r:=s) (q':=r) (r':=s) rfl rfl).trans h
   ·exact(z24 (q:=r) (r:= .pick c s) (q':=r) (r':=s) rfl rfl).trans h
   ·cases h
  | sort | cols | both=>cases f;cases h
  | _=>cases f
 ·exact h
 all_goals cases h
theorem z6i(f:jB th c q=some q'):held th c q=false:=by
 cases q <;> first | rfl | (show Option.isNone _=false;rw [f];rfl)
theorem z7o(t:Trn th q q'):k7 q'<=k7 q:=by
 rcases t with⟨c,r,_,f⟩ | ⟨c,e,r,_⟩ | ⟨n,m,r⟩ | ⟨n,l,r⟩ | ⟨l,m,r⟩ | ⟨a,r⟩
 ·rcases z1l f with⟨a,b,rfl,rfl⟩ | f
  ·simp only [k7];lia
  cases r with
  | pair r s=>
   rcases z1h f with h1 | h2 | ⟨x,y,_,h1,h2,rfl⟩
   ·simp only [k7];lia
   ·simp only [k7];lia
   ·unfold yG;split <;> simp only [k7] <;> lia
  | join a b r s=>rcases z1h (mk:= .join a b) (b:=false) f with h1 | h2 | ⟨_,_,h⟩ <;> first | cases h | (simp only [k7];lia)
  | sort | cols | both=>cases f;simp only [k7];lia
  | _=>cases f
 all_goals simp only [k7];lia
theorem yC(c:Cond)(q:Qn):nu th (.pick c q)<=c.size * wt q + c.size * c.size * zv q + nu th q:=by
 simp only [nu];split <;> lia
theorem yS(h:held th c (beneath q)=false):nu th (.pick c q)=c.size * wt q + c.size * c.size * zv q + nu th q:=by
 simp only [nu,h];simp
theorem z8l(hm:∀x y,nu th (mk x y)=nu th x + nu th y + 1)(e:jz th c mk b q r=some q'):nu th q' < c.size * (wt q + wt r + 1) + c.size * c.size * (zv q + zv r) + (nu th q + nu th r + 1):=by
 have a:=yC (th:=th) c q;have p2:=yC (th:=th) c r;have hs:=c.size_pos;rw [Qk,Qk,Qk,w1A];rcases z1h e with _ | _ | ⟨x,y⟩
 ·rw [hm];lia
 ·rw [hm];lia
 ·unfold yG;split <;> simp only [nu] <;> lia
theorem zcm(F:∀r∈kids q,yw th r=none)(e:yw th q=some q'):nu th q' < nu th q:=by
 rcases z1T e with⟨c,r,_,f⟩ | ⟨c,d,r,h2⟩ | ⟨n,m,r⟩ | ⟨n,l,r⟩ | ⟨l,m,r⟩ | ⟨a,r⟩
 ·have hs:=c.size_pos;rcases z1l f with⟨a,b,rfl,rfl⟩ | g
  ·have C:∀q,held th (.an a b) q=false:=λq=>by cases q <;> rfl
   rw [yS (C _)];have p:=yC (th:=th) a (.pick b r);have p2:=yC (th:=th) b r;have D:(Cond.an a b).size=a.size + b.size + 1:=rfl;have o:wt (.pick b r)=b.size * zv r + wt r:=rfl;have j:zv (.pick b r)=zv r:=rfl;rw [o,j]at p;rw [D];have l1:=yp r;generalize a.size=x at *;generalize b.size=y at *;generalize zv r=l at *;generalize wt r=w at *;have A:x * (y * l + w)=x * y * l + x * w:=by rw [Qk,Nat.mul_assoc]
   have B:(x + y + 1) * w=x * w + y * w + w:=by rw [QY,QY,w1b]
   have E:(x + y + 1) * (x + y + 1) * l=x * x * l + y * y * l + x * y * l + (x * y * l + 2 * (x * l) + 2 * (y * l) + l):=by
    simp only [QY,Qk,w1b,w1A,Nat.mul_comm y x]
    lia
   rw [A]at p;rw [B,E]
   lia
  ·have i:=z6i f;cases r with
   | sort _ r | cols _ r=>
    cases g;rw [yS i];have:=yC (th:=th) c r;simp only [wt,zv,Qk,w1A]
    show nu th (.pick c r) + 1 < _ + (nu th r + 1)
    lia
   | both r s=>
    cases g;rw [yS i];have:=yC (th:=th) c r;have:=yC (th:=th) c s;simp only [wt,zv,Qk,w1A]
    show nu th (.pick c r) + nu th (.pick c s) + 1 < _ + (nu th r + nu th s + 1)
    lia
   | pair r s=>rw [yS i];exact z8l (mk:= .pair) (b:=true) (λ_ _=>rfl) g
   | join a b r s=>rw [yS i];exact z8l (mk:= .join a b) (b:=false) (λ_ _=>rfl) g
   | _=>cases g
 ·have st:=z6Z (F _ (wu.mpr rfl));have hc:=c.size_pos;have hd:=d.size_pos;have l1:=yp r;have h:held th d (beneath r)=true/\held th c (beneath r)=false:=by
   generalize beneath r=x at st h2;obtain⟨y,u⟩:=Option.isSome_iff_exists.mp h2;refine⟨?_,z6i u⟩;have t:(jB th d x).isNone=true:=by
    cases hz:jB th d x with
    | none=>rfl
    | some z=>rw [hz]at st;cases st
   cases x with
   | pair | join=>exact t
   | sort | cols | both=>cases d <;> cases t
   | _=>
    rcases z1l u with⟨a,b,rfl,rfl⟩ | g
    ·cases e
    ·cases g
  have o:nu th (.pick d (.pick c r))=d.size * d.size * zv r + (c.size * wt r + c.size * c.size * zv r + nu th r):=by
   rw [<-yS h.2]
   show(if held th d (beneath r)=true then 0 else _) + _ + _=_
   rw [wU h.1,w1g]
   rfl
  have j:nu th (.pick c (.pick d r))=c.size * (d.size * zv r + wt r) + c.size * c.size * zv r + (d.size * d.size * zv r + nu th r):=by
   rw [yS (q:= .pick d r) h.2]
   congr 1
   show(if held th d (beneath r)=true then 0 else _) + _ + _=_
   rw [wU h.1,w1g]
  have z:1 * (1 * 1)<=c.size * (d.size * zv r):=w0K hc (w0K hd l1);rw [o,j,Qk]
  lia
 all_goals
  simp only [nu,k7]
  lia
structure Dn(th:Str->List Str)(q q':Qn):Prop where
 nu:nu th q' < nu th q
 wt:wt q'<=wt q
 lv:zv q'=zv q
 nc:k7 q'<=k7 q
 hl:Hld th q q'
 hd:za th q'=za th q
theorem Dn.set{k:Qn}(f:(kids p)[i]? =some k)(D:Dn th k k'):Dn th p (zN p i k'):=by
 have w:=zdr f D.lv D.wt;have hd:za th (zN p i k')=za th p:=(z3f D.hd).trans (by rw [set_same f]);have n:=D.nu;have o:=D.nc;have l:Hld th p (zN p i k'):=by
  intro d h;have:=zaS (p:=p) (i:=i) (d:=d) D.hd.symm;rw [set_same f]at this;cases p with
  | pick c q=>
   match i,f with
   | 0,f=>cases f;exact D.hl d h
  | pair q r | both q r=>by_cases e:i=0 <;> simp only [zN,e,w0M,w0v]at this ⊢ <;> exact this ▸ h
  | join a b q r=>by_cases e:i=0 <;> simp only [zN,e,w0M,w0v]at this ⊢ <;> exact this ▸ h
  | _=>exact this ▸ h
 have j:∀c:Cond,_root_.Q12.nu th (.pick c k') < _root_.Q12.nu th (.pick c k):=λc=>by
  have m:c.size * _root_.Q12.wt k'<=c.size * _root_.Q12.wt k:=Qv _ D.wt;simp only [Q12.nu,D.lv];by_cases e:held th c (beneath k)=true
  ·rw [wU e,wU (D.hl c e)];lia
  ·rw [wM e];split <;> lia
 refine⟨?_,w.2,w.1,?_,l,hd⟩
 ·cases p <;> rcases i with _ | _ | i <;> cases f <;> first | exact j _ | (simp only [zN,Q12.nu,w0M,w1g,Nat.one_ne_zero,w0v];lia)
 ·cases p <;> rcases i with _ | _ | i <;> cases f <;> simp only [zN,k7,w0M,w1g,Nat.one_ne_zero,w0v] <;> lia
theorem Dn.plug:∀{c:List (Qn×Nat)} {q q':Qn},z02 th c q->Dn th q q'->Dn th (plug c q) (plug c q')
 | [],_,_,_,D=>D
 | (p,i) :: c,q,q',h,D=>by
  have E:=D.set (z4g (k:=q) h.1);rw [set_set h.1]at E;exact Dn.plug (c:=c) h.2.2 E
def zbC(T:TabOk th tr)(w:wfQ th q)(a:∀r∈kids q,yw th r=none)(e:yw th q=some q'):Dn th q q':=
 ⟨zcm a e,(z8v e).2,(z8v e).1,z7o (z1T e),zb0 (z1T e),(z48 T w e).h⟩
theorem zbd(q:Qn):k7 q<=wt q:=by
 induction q <;> simp only [k7,wt] <;> lia
theorem z63(a b:Nat):a * a + 2 * (a * b) + b * b=(a + b) * (a + b):=by
 rw [QY,Qk,Qk,Nat.mul_comm b a]
 lia
theorem zel(q:Qn):nu th q<=wt q * wt q:=by
 induction q with
 | table n=>exact qY _
 | pick c q a=>
  have h1:=yC (th:=th) c q;have l1:=yp q
  show _<=(c.size * zv q + wt q) * (c.size * zv q + wt q)
  rw [<-z63];have f:c.size * wt q * 1<=c.size * wt q * zv q:=Qv _ l1;have d:c.size * zv q * wt q=c.size * wt q * zv q:=Nat.mul_right_comm _ _ _;have e:c.size * c.size * zv q * 1<=c.size * c.size * zv q * zv q:=Qv _ l1;have b:c.size * zv q * (c.size * zv q)=c.size * c.size * zv q * zv q:=by
   rw [Nat.mul_assoc,Nat.mul_left_comm (zv q),<-Nat.mul_assoc,<-Nat.mul_assoc]
  rw [d,b]
  lia
 | first n q a=>
  have:=zbd q;simp only [nu,wt,<-z63]
  lia
 | cols _ q a | sort _ q a | group _ _ _ _ q a=>
  simp only [nu,wt,<-z63]
  lia
 | pair q r i j | join _ _ q r i j | both q r i j=>
  simp only [nu,wt,<-z63]
  lia
def One(th:Str->List Str)(w a:Qn):Prop:=∃c r r',z02 th c r/\w=plug c r/\a=plug c r'/\yw th r=some r'/\∀k∈kids r,nf th k
theorem One.eqv(T:TabOk th tr){w a:Qn}(wf:wfQ th w)(o:One th w a):Eqv th tr w a:=by
 obtain⟨c,r,r',h,rfl,rfl,e,_⟩:=o;exact z6s h wf (z48 T (z21 h wf) e)
theorem One.dn(T:TabOk th tr){w a:Qn}(wf:wfQ th w)(o:One th w a):Dn th w a:=by
 obtain⟨c,r,r',h,rfl,rfl,e,b⟩:=o;exact Dn.plug h (zbC T (z21 h wf) (λk m=>b k m k (z57 k)) e)
def kN(H:Hp):Qn->List V->Prop
 | .table n,xs=>xs= [.str "table",.str n]
 | .pick c _,xs=>∃x,xs= [.str "pick",x]/\zI H c x
 | .cols ns _,xs=>∃x,xs= [.str "cols",.ref x]/\H x=some (.tup (ns.map V.str))
 | .pair _ _,xs=>xs= [.str "pair"]
 | .join a b _ _,xs=>xs= [.str "join",.str a,.str b]
 | .both _ _,xs=>xs= [.str "both"]
 | .first n _,xs=>xs= [.str "first",.int n]
 | .group a b n s _,xs=>xs= [.str "group",.str a,.str b,.str n,.str s]
 | .sort a _,xs=>xs= [.str "sort",.str a]
noncomputable def jD(ah hd wl:Addr)(qv:V)(b:Bool):List (Str×V):= [("ahead",.ref ah),("heads",.ref hd),("within",.ref wl),("question",qv),("settled",.bl b)]
structure NodeAt(th:Str->List Str)(C:Addr)(H:Hp)(q:Qn)(a:Addr)(ws:List V)(ah hd wl dx:Addr)(qv:V)(b:Bool)(xs:List V):Prop where
 me:H a=some (.ins C dx (jD ah hd wl qv b))
 ahd:H ah=some (.tup xs)
 ahx:kN H q xs
 hds:H hd=some (.lst ((za th q).map V.str))
 wit:H wl=some (.lst ws)
 qst:QAt H q qv
 set:b=true->nf th q
def Node(th:Str->List Str)(C:Addr)(H:Hp)(q:Qn)(v:V)(ws:List V):Prop:=∃a ah hd wl dx qv b xs,v= .ref a/\NodeAt th C H q a ws ah hd wl dx qv b xs
def jS(th:Str->List Str)(C:Addr)(H:Hp):Qn->V->Prop
 | .table n,v=>Node th C H (.table n) v []
 | .pick c q,v=>∃w,Node th C H (.pick c q) v [w]/\jS th C H q w
 | .cols ns q,v=>∃w,Node th C H (.cols ns q) v [w]/\jS th C H q w
 | .pair q r,v=>∃w u,Node th C H (.pair q r) v [w,u]/\jS th C H q w/\jS th C H r u
 | .join a b q r,v=>∃w u,Node th C H (.join a b q r) v [w,u]/\jS th C H q w/\jS th C H r u
 | .both q r,v=>∃w u,Node th C H (.both q r) v [w,u]/\jS th C H q w/\jS th C H r u
 | .first n q,v=>∃w,Node th C H (.first n q) v [w]/\jS th C H q w
 | .group a b n s q,v=>∃w,Node th C H (.group a b n s q) v [w]/\jS th C H q w
 | .sort a q,v=>∃w,Node th C H (.sort a q) v [w]/\jS th C H q w
def jT(th:Str->List Str)(C:Addr)(H:Hp):List Qn->List V->Prop
 | [],vs=>vs= []
 | q :: qs,vs=>∃v ws,vs=v :: ws/\jS th C H q v/\jT th C H qs ws
theorem zU{v:V}:jS th C H q v↔∃ws,Node th C H q v ws/\jT th C H (kids q) ws:=by
 have one:∀{q r:Qn},kids q= [r]->((∃w,Node th C H q v [w]/\jS th C H r w)↔∃ws,Node th C H q v ws/\jT th C H (kids q) ws):=λ{q r} d=>by
  rw [d];constructor
  ·rintro⟨w,h1,h2⟩;exact⟨[w],h1,w,[],rfl,h2,rfl⟩
  ·rintro⟨ws,h1,w,us,rfl,h2,rfl⟩;exact⟨w,h1,h2⟩
 have two:∀{q r t:Qn},kids q= [r,t]->((∃w u,Node th C H q v [w,u]/\jS th C H r w/\jS th C H t u)↔∃ws,Node th C H q v ws/\jT th C H (kids q) ws):=λ{q r t} d=>by
  rw [d];constructor
  ·rintro⟨w,u,h1,h2,e⟩;exact⟨[w,u],h1,w,[u],rfl,h2,u,[],rfl,e,rfl⟩
  ·rintro⟨ws,h1,w,us,rfl,h2,u,vs,rfl,e,rfl⟩;exact⟨w,u,h1,h2,e⟩
 cases q with
 | table n=>
  constructor
  ·intro h;exact⟨[],h,rfl⟩
  ·rintro⟨ws,h,rfl⟩;exact h
 | pick c q=>exact one rfl
 | cols ns q=>exact one rfl
 | first n q=>exact one rfl
 | group a b n s q=>exact one rfl
 | sort a q=>exact one rfl
 | pair q r=>exact two rfl
 | join a b q r=>exact two rfl
 | both q r=>exact two rfl
theorem jT.len:∀{qs:List Qn} {vs:List V},jT th C H qs vs->vs.length=qs.length
 | [],_,h=>by rw [show _= []from h];rfl
 | _ :: qs,_,⟨v,ws,e,_,h⟩=>by rw [e,wJ,wJ,h.len]
theorem jT.at:∀{qs:List Qn} {vs:List V} {i:Nat} {q:Qn},jT th C H qs vs->qs[i]? =some q->∃v,vs[i]? =some v/\jS th C H q v
 | q :: qs,_,0,_,⟨v,us,a,h1,h2⟩,e=>by cases e;exact⟨v,by rw [a];rfl,h1⟩
 | q :: qs,_,i + 1,_,⟨v,us,a,h1,h2⟩,e=>by
  obtain⟨u,b,z⟩:=h2.at (i:=i) (by simpa using e);exact⟨u,by rw [a];simpa using b,z⟩
theorem jT.set:∀{qs:List Qn} {vs:List V} {i:Nat} {q:Qn} {v:V},jT th C H qs vs->jS th C H q v->jT th C H (qs.set i q) (vs.set i v)
 | [],_,_,_,_,h,_=>by rw [show _= []from h];rfl
 | r :: qs,_,0,_,v,⟨u,us,a,h1,h2⟩,h=>by subst a;exact⟨v,us,rfl,h,h2⟩
 | r :: qs,_,i + 1,_,v,⟨u,us,a,h1,h2⟩,h=>by subst a;exact⟨u,us.set i v,rfl,h1,h2.set h⟩
structure Ev(th:Str->List Str)(C:Addr)(H H':Hp):Prop where
 t:∀b o,H b=some o->(∀ps,o≠ .tbl ps)->(∀D dx fs,o≠ .ins D dx fs)->H' b=some o
 n:∀a dx ah hd wl qv b,H a=some (.ins C dx (jD ah hd wl qv b))->∃b',H' a=some (.ins C dx (jD ah hd wl qv b'))/\(b'=b\/(b'=true/\∀q ws xs,NodeAt th C H q a ws ah hd wl dx qv b xs->nf th q))
theorem Ev.tup{b:Addr}{xs:List V}(e:Ev th C H H')(h:H b=some (.tup xs)):H' b=some (.tup xs):=e.t b _ h (λ_ z=>by cases z) λ_ _ _ z=>by cases z
theorem Ev.lst{b:Addr}{xs:List V}(e:Ev th C H H')(h:H b=some (.lst xs)):H' b=some (.lst xs):=e.t b _ h (λ_ z=>by cases z) λ_ _ _ z=>by cases z
theorem Ev.of(h:Nt H H'):Ev th C H H':=⟨λb o e n _=>h b o e n,λa dx ah hd wl qv b e=>⟨b,h a _ e (λ_ z=>by cases z),.inl rfl⟩⟩
theorem kN.mono(t:∀b xs,H b=some (.tup xs)->H' b=some (.tup xs))(h:kN H q xs):kN H' q xs:=by
 cases q with
 | pick c q=>obtain⟨x,e,h⟩:=h;exact⟨x,e,h.mono t⟩
 | cols ns q=>obtain⟨x,e,h⟩:=h;exact⟨x,e,t _ _ h⟩
 | _=>exact h
theorem Node.ev{v:V}(e:Ev th C H H')(h:Node th C H q v ws):Node th C H' q v ws:=by
 obtain⟨a,ah,hd,wl,dx,qv,b,xs,rfl,h⟩:=h;obtain⟨b',h1,h2⟩:=e.n a dx ah hd wl qv b h.me;have c:∀b xs,H b=some (.tup xs)->H' b=some (.tup xs):=λb xs z=>e.tup z
 refine⟨a,ah,hd,wl,dx,qv,b',xs,rfl,h1,e.tup h.ahd,h.ahx.mono c,e.lst h.hds,e.lst h.wit,h.qst.mono c,λz=> ?_⟩;rcases h2 with rfl | ⟨_,h2⟩
 ·exact h.set z
 ·exact h2 q ws xs h
theorem jS.ev(e:Ev th C H H'):∀{q:Qn} {v:V},jS th C H q v->jS th C H' q v
 | .table n,_,h=>Node.ev e h
 | .pick c q,_,⟨w,h1,h2⟩=>⟨w,h1.ev e,h2.ev e⟩
 | .cols ns q,_,⟨w,h1,h2⟩=>⟨w,h1.ev e,h2.ev e⟩
 | .pair q r,_,⟨w,u,h1,h2,d⟩=>⟨w,u,h1.ev e,h2.ev e,d.ev e⟩
 | .join a b q r,_,⟨w,u,h1,h2,d⟩=>⟨w,u,h1.ev e,h2.ev e,d.ev e⟩
 | .both q r,_,⟨w,u,h1,h2,d⟩=>⟨w,u,h1.ev e,h2.ev e,d.ev e⟩
 | .first n q,_,⟨w,h1,h2⟩=>⟨w,h1.ev e,h2.ev e⟩
 | .group a b n s q,_,⟨w,h1,h2⟩=>⟨w,h1.ev e,h2.ev e⟩
 | .sort a q,_,⟨w,h1,h2⟩=>⟨w,h1.ev e,h2.ev e⟩
theorem jT.ev(e:Ev th C H H'):∀{qs:List Qn} {vs:List V},jT th C H qs vs->jT th C H' qs vs
 | [],_,h=>h
 | _ :: _,_,⟨v,ws,a,h1,h2⟩=>⟨v,ws,a,h1.ev e,h2.ev e⟩
theorem zdB{kv:List V}{p:Addr}(h:kN H q xs)(i:yu H (kids q) kv)(hp:H p=some (.tup (xs ++ kv))):QAt H q (.ref p):=by
 have one:∀{r:Qn},yu H [r] kv->∃y,kv= [y]/\QAt H r y:=λ⟨v,ws,e,h,z⟩=>⟨v,by rw [e,show ws= []from z],h⟩
 have two:∀{r t:Qn},yu H [r,t] kv->∃x y,kv= [x,y]/\QAt H r x/\QAt H t y:=λ⟨v,ws,e,h,u,us,j,h2,z⟩=>⟨v,u,by rw [e,j,show us= []from z],h,h2⟩
 cases q with
 | table n=>
  rw [show kv= []from i,show xs=_ from h]at hp;exact⟨p,rfl,hp⟩
 | pick c q=>
  obtain⟨y,rfl,d⟩:=one i;obtain⟨x,rfl,f⟩:=h;exact⟨p,x,y,rfl,hp,f,d⟩
 | cols ns q=>
  obtain⟨y,rfl,d⟩:=one i;obtain⟨x,rfl,f⟩:=h;exact⟨p,x,y,rfl,hp,f,d⟩
 | first n q=>
  obtain⟨y,rfl,d⟩:=one i;rw [show xs=_ from h]at hp;exact⟨p,y,rfl,hp,d⟩
 | group a b n s q=>
  obtain⟨y,rfl,d⟩:=one i;rw [show xs=_ from h]at hp;exact⟨p,y,rfl,hp,d⟩
 | sort a q=>
  obtain⟨y,rfl,d⟩:=one i;rw [show xs=_ from h]at hp;exact⟨p,y,rfl,hp,d⟩
 | pair q r=>
  obtain⟨x,y,rfl,f,d⟩:=two i;rw [show xs=_ from h]at hp;exact⟨p,x,y,rfl,hp,f,d⟩
 | join a b q r=>
  obtain⟨x,y,rfl,f,d⟩:=two i;rw [show xs=_ from h]at hp;exact⟨p,x,y,rfl,hp,f,d⟩
 | both q r=>
  obtain⟨x,y,rfl,f,d⟩:=two i;rw [show xs=_ from h]at hp;exact⟨p,x,y,rfl,hp,f,d⟩
noncomputable def z5C(st:Stmt)(j:Nat):Stmt:=match st with
 | .ClassDef _ _ _ body _ _ _ _ _ _ _=>body.getD j (.Pass ⟨0,0,0,0⟩)
 | _=> .Pass ⟨0,0,0,0⟩
noncomputable abbrev z0m:Stmt:=z5C (top 10) 0
noncomputable abbrev kY:Stmt:=z5C (top 35) 0
noncomputable abbrev yU:Stmt:=z5C (top 35) 1
noncomputable abbrev kG:Stmt:=z5C (top 35) 2
noncomputable abbrev yL:Stmt:=z5C (top 35) 3
noncomputable abbrev kg:Stmt:=z5C (top 35) 4
structure PC(K:W.Frag)(C:Addr):Prop where
 cls:Cls K C
 ah:NoAttr K C "ahead"
 hd:NoAttr K C "heads"
 wi:NoAttr K C "within"
 qu:NoAttr K C "question"
 se:NoAttr K C "settled"
theorem ze6{v:V}:yN "ahead" v []=([("ahead",v)]:List (Str×V)):=rfl
theorem put2{v x:V}:yN "heads" v ([("ahead",x)]:List (Str×V))=([("ahead",x),("heads",v)]:List (Str×V)):=by simp [yN,show("ahead":Str)≠"heads" by decide +kernel]
theorem put3{v x y:V}:yN "within" v ([("ahead",x),("heads",y)]:List (Str×V))=([("ahead",x),("heads",y),("within",v)]:List (Str×V)):=by simp [yN,show("ahead":Str)≠"within" by decide +kernel,show("heads":Str)≠"within" by decide +kernel]
theorem zdY{v x y z:V}:yN "question" v ([("ahead",x),("heads",y),("within",z)]:List (Str×V))=([("ahead",x),("heads",y),("within",z),("question",v)]:List (Str×V)):=by
 simp [yN,show("ahead":Str)≠"question" by decide +kernel,show("heads":Str)≠"question" by decide +kernel,show("within":Str)≠"question" by decide +kernel]
theorem zeQ{v x y z:V}:yN "settled" v ([("ahead",x),("heads",y),("within",z),("question",u)]:List (Str×V))=([("ahead",x),("heads",y),("within",z),("question",u),("settled",v)]:List (Str×V)):=by
 simp [yN,show("ahead":Str)≠"settled" by decide +kernel,show("heads":Str)≠"settled" by decide +kernel,show("within":Str)≠"settled" by decide +kernel,show("question":Str)≠"settled" by decide +kernel]
theorem zeI{hd:Addr}:yN "settled" (.bl true) (jD ah hd wl qv b)=jD ah hd wl qv true:=by
 simp [yN,jD,show("ahead":Str)≠"settled" by decide +kernel,show("heads":Str)≠"settled" by decide +kernel,show("within":Str)≠"settled" by decide +kernel,show("question":Str)≠"settled" by decide +kernel]
def zbj{hd:Addr}:(jD ah hd wl qv b).lookup ("ahead":Str)=some (V.ref ah):=rfl
theorem zcf{hd:Addr}:(jD ah hd wl qv b).lookup ("heads":Str)=some (V.ref hd):=by rfl
theorem zch{hd:Addr}:(jD ah hd wl qv b).lookup ("within":Str)=some (V.ref wl):=by rfl
theorem z8a{hd:Addr}:(jD ah hd wl qv b).lookup ("question":Str)=some qv:=by rfl
theorem zbr{hd:Addr}:(jD ah hd wl qv b).lookup ("settled":Str)=some (V.bl b):=by rfl
def yI{a hd:Addr}(d:PC K C)(h:H a=some (.ins C dx (jD ah hd wl qv b)))(q:Q (.ref ah)):∃a' c ai fs v,V.ref a= .ref a'/\H a'=some (.ins c ai fs)/\Cls K c/\NoAttr K c "ahead"/\fs.lookup ("ahead":Str)=some v/\Q v:=⟨a,C,dx,_,_,rfl,h,d.cls,d.ah,zbj,q⟩
def z0D{a hd:Addr}(d:PC K C)(h:H a=some (.ins C dx (jD ah hd wl qv b)))(q:Q (.ref hd)):∃a' c ai fs v,V.ref a= .ref a'/\H a'=some (.ins c ai fs)/\Cls K c/\NoAttr K c "heads"/\fs.lookup ("heads":Str)=some v/\Q v:=⟨a,C,dx,_,_,rfl,h,d.cls,d.hd,zcf,q⟩
def k5{a hd:Addr}(d:PC K C)(h:H a=some (.ins C dx (jD ah hd wl qv b)))(q:Q (.ref wl)):∃a' c ai fs v,V.ref a= .ref a'/\H a'=some (.ins c ai fs)/\Cls K c/\NoAttr K c "within"/\fs.lookup ("within":Str)=some v/\Q v:=⟨a,C,dx,_,_,rfl,h,d.cls,d.wi,zch,q⟩
def zcs{a hd:Addr}(d:PC K C)(h:H a=some (.ins C dx (jD ah hd wl qv b)))(q:Q (qv)):∃a' c ai fs v,V.ref a= .ref a'/\H a'=some (.ins c ai fs)/\Cls K c/\NoAttr K c "question"/\fs.lookup ("question":Str)=some v/\Q v:=⟨a,C,dx,_,_,rfl,h,d.cls,d.qu,z8a,q⟩
def zac{a hd:Addr}(d:PC K C)(h:H a=some (.ins C dx (jD ah hd wl qv b)))(q:Q (.bl b)):∃a' c ai fs v,V.ref a= .ref a'/\H a'=some (.ins c ai fs)/\Cls K c/\NoAttr K c "settled"/\fs.lookup ("settled":Str)=some v/\Q v:=⟨a,C,dx,_,_,rfl,h,d.cls,d.se,zbr,q⟩
inductive spPInit (K:W.Frag) (C:Addr) (vs:List V) (H:Hp) (Q:VK) (E:XK):Prop
 | mk:∀th q x dx ah hd wl xs ws,vs= [.ref x,.ref ah,.ref hd,.ref wl]->H x=some (.ins C dx [])->H ah=some (.tup xs)->kN H q xs->H wl=some (.lst ws)->jT th C H (kids q) ws->(∀(qv:V) (H':Hp),(∀b o,b≠x->H b=some o->H' b=some o)->H' x=some (.ins C dx (jD ah hd wl qv false))->QAt H' q qv->Q .non H')->spPInit K C vs H Q E
theorem z4m(h:kN H q xs):xs≠ []/\xs.length<=5:=by
 cases q with
 | pick c q=>obtain⟨x,e,h⟩:=h;rw [e];simp
 | cols ns q=>obtain⟨x,e,h⟩:=h;rw [e];simp
 | _=>rw [show xs=_ from h];simp
theorem z4Q:FnScope ["self","ahead","heads","within"] ["self","ahead","heads","within"] (zm z0m):=by walk_at "s"
theorem z4O(F:Fun K "__init__" "Place.__init__" z0m f fd)(T:Txt K mg)(c:PC K C):FnOk P w K mg base CX0 1 f fd ["self","ahead","heads","within"] (spPInit K C):=by
 refine F.okB z4Q (λvs H Q E h=> ?_) (λvs H Q E h=> ?_)
 ·obtain⟨th,q,x,dx,ah,hd,wl,xs,ws,rfl,_⟩:=h
  rfl
 obtain⟨th,q,x,dx,ah,hd,wl,xs,ws,rfl,Z,ha,M,hw,l7,fin⟩:=h;intro ac A outer sh hr;refine⟨_,(ze (z0x v0 v1 rfl)
  (ze (z0x v0 v2 rfl)
  (ze (z0x v0 v3 rfl)
  (ze (z0x v0 (zr z3Q v1 (je z0Q rfl T.tuple Qz (z1g (yz rfl (CompSc.of (sx:=zm z0m) (NX:= ["self","ahead","heads","within"]) (fr:= []) (ix:= []) rfl rfl (by decide +kernel)) (jb v3) (λ_ _ _ _ _ _=>jM) (λ_ _ _ _ _ _=>(z3L (K:=K) rfl v0 rfl))) zd))) rfl)
  (zh (z0x v0 yt rfl)))))),?_⟩
 generalize hK0:K=K1;generalize hK1:C=C1
 revert C1
 revert K1
 refine z0a (by walk_at "cl") ?_;refine !(!⟨x,C,dx,!⟨Z,c.cls,c.ah,by show 0 < 1000;decide,?_⟩⟩);refine !(!⟨x,C,dx,!⟨zj,c.cls,c.hd,by show 1 < 1000;decide,?_⟩⟩);refine !(!⟨x,C,dx,!⟨zj,c.cls,c.wi,by rw [ze6,put2];show 2 < 1000;decide,?_⟩⟩);rw [ze6,put2,put3];generalize hH3:upd (upd (upd H x _) x _) x _=H3;have t:∀b o,b≠x->H b=some o->H3 b=some o:=λb o d e=>by
  rw [<-hH3,zn d,zn d,zn d];exact e
 have x3:H3 x=some (.ins C dx [("ahead",.ref ah),("heads",.ref hd),("within",.ref wl)]):=by rw [<-hH3,zj]
 have s:Ev th C H H3:=⟨λb o e _ n=>t b o (λz=>by rw [z,Z]at e;cases e;exact n _ _ _ rfl) e,λa ai cQ bg bL qv b e=>⟨b,t a _ (λz=>by rw [z,Z]at e;cases e) e,.inl rfl⟩⟩;have g8:=s.lst hw;have tO:=s.tup ha;have bY:=l7.ev s;have hl:=l7.len;have lk:=z2N q;have close:∀(qv:V) (l:Hp),zz H3 l->QAt l q qv->zdc K (λσ H Q=>Q (.ref x) H) (λσ H Q=>Q qv H) "question" {nx:=λσ H=>zdc K (λσ H Q=>Q (.ref x) H) (λσ H Q=>Q (.bl false) H) "settled" {nx:=λ_ H'=>Q .non H',rt:=Q} σ H,rt:=Q} [] l:=λqv l s6 h6=>by
  have r:=s6 _ _ x3;refine⟨x,C,dx,!⟨r,c.cls,c.qu,by show 3 < 1000;decide,?_⟩⟩;refine⟨x,C,dx,!⟨zj,c.cls,c.se,by rw [zdY];show 4 < 1000;decide,?_⟩⟩;refine fin qv _ (λb o d e=>by rw [zn d,zn d];exact s6 _ _ (t b o d e)) (by rw [zj,zdY,zeQ];rfl) (h6.mono λb ys z=> ?_);have d:b≠x:=λe=>by rw [e,r]at z;cases z
  rw [zn d,zn d];exact z
 refine !(!⟨wl,rfl,⟨_,SqL.of g8⟩,?_⟩);refine jF (xs:=ws) (λi ys H'=>H'=H3/\ys.length=i/\yu H3 ((kids q).take i) ys) ⟨rfl,rfl,by rw [w0u];rfl⟩ ?_ ?_ ?_
 ·rintro i ys H' hi ⟨rfl,D,_⟩;exact⟨SqL.of g8,zG (by lia)⟩
 ·rintro i y ys H' hi ⟨rfl,D,hq⟩;have cq:i < (kids q).length:=by rw [<-hl];exact(we.mp hi).1
  obtain⟨v,hv,pv⟩:=bY.at (wa cq);rw [hi]at hv;cases hv;obtain⟨us,⟨a,cQ,bg,bL,ai,qv,b,cZ,rfl,nd⟩,_⟩:=zU.mp pv;refine !⟨a,C,ai,_,qv,rfl,nd.me,c.cls,c.qu,z8a,rfl,by rw [wb,D];rfl,?_⟩;rw [q9,wa cq];exact hq.app ⟨qv,[],rfl,nd.qst,rfl⟩
 ·rintro ys H' ⟨rfl,D,hq⟩ np aA;rw [hl,qB]at hq;refine zc (upd _ np _) rfl aA λH4 n4 x4=> ?_
  refine⟨np,ys,rfl,.inl ⟨SqL.of x4,λtp ax=> ?_⟩⟩;refine zc (upd _ tp _) rfl ax λH5 n5 x5=> ?_
  have j:=n4.trans n5;have l8:kN H5 q xs:=(M.mono λb xs z=>s.tup z).mono λb xs z=>j _ _ z
  refine⟨ah,tp,xs,ys,rfl,rfl,SqT.of (j _ _ tO),SqT.of x5,?_,?_,λe=> ?_,λne p hp=> ?_⟩
  ·exact(z4m M).1
  ·have:=(z4m M).2;exact ja (by lia)
  ·subst e;have xy:QAt H5 q (.ref ah):=zdB l8 (hq.same j) (by rw [Qb];exact j _ _ tO);obtain⟨u,C',ai,eS,S,R,iY,e4,Y,X,O,G,U,f1,f2,I,J,N,L⟩:=close _ _ j xy;exact !⟨u,C',ai,eS,S,R,iY,e4,Y,!⟨X,O,G,U,f1,f2,I,J,N,L⟩⟩
  ·refine zc (upd _ p _) rfl hp λl B r=> ?_
   have xz:QAt l q (.ref p):=zdB (l8.mono λb xs z=>B _ _ z) (hq.same (j.trans B)) r;obtain⟨u,C',ai,eS,S,R,iY,e4,Y,X,O,G,U,f1,f2,I,J,N,L⟩:=close _ _ (j.trans B) xz;exact !⟨u,C',ai,eS,S,R,iY,e4,Y,!⟨X,O,G,U,f1,f2,I,J,N,L⟩⟩
theorem jI{Q:VK}{hd:Addr}(ha:H ah=some (.tup xs))(c:kN H q xs)(h:H hd=some (.lst ((za th q).map V.str)))(d:H wl=some (.lst ws))(hp:jT th C H (kids q) ws)
  (fin:∀(x dx:Addr) (qv:V) (H':Hp),zz H H'->H x=none->NodeAt th C H' q x ws ah hd wl dx qv false xs->jS th C H' q (.ref x)->Q (.ref x) H'):
  ∀x dx,H x=none->H dx=none->dx≠x->spPInit K C (.ref x :: ([.ref ah,.ref hd,.ref wl] ++ [])) (upd (upd H dx (.own x)) x (.ins C dx [])) (λv H2=>v= .non/\Q (.ref x) H2) E:=by
 intro x dx a i n;have s1:zz H (upd (upd H dx (.own x)) x (.ins C dx [])):=λb o e=>by
  have b1:b≠x:=λz=>by rw [z,a]at e;cases e
  have b2:b≠dx:=λz=>by rw [z,i]at e;cases e
  rw [zn b1,zn b2];exact e
 refine⟨th,q,x,dx,ah,hd,wl,xs,ws,rfl,zj,s1 _ _ ha,c.mono λb xs z=>s1 _ _ z,s1 _ _ d,hp.ev (Ev.of (Nt.of s1)),λqv H' l j f=>⟨rfl,?_⟩⟩;have s2:zz H H':=λb o e=>l b o (λz=>by rw [z,a]at e;cases e) (s1 b o e)
 have nd:NodeAt th C H' q x ws ah hd wl dx qv false xs:=⟨j,s2 _ _ ha,c.mono λb xs z=>s2 _ _ z,s2 _ _ h,s2 _ _ d,f,λz=>by cases z⟩;exact fin x dx qv H' s2 a nd (zU.mpr ⟨ws,⟨x,ah,hd,wl,dx,qv,false,xs,rfl,nd⟩,hp.ev (Ev.of (Nt.of s2))⟩)
noncomputable def j7:Qn->Str
 | .table _=>"table"
 | .pick _ _=>"pick"
 | .cols _ _=>"cols"
 | .pair _ _=>"pair"
 | .join _ _ _ _=>"join"
 | .both _ _=>"both"
 | .first _ _=>"first"
 | .group _ _ _ _ _=>"group"
 | .sort _ _=>"sort"
theorem z0n(h:kN H q xs):∃r,xs= .str (j7 q) :: r:=by
 cases q with
 | pick c q=>obtain⟨x,e,h⟩:=h;exact⟨_,e⟩
 | cols ns q=>obtain⟨x,e,h⟩:=h;exact⟨_,e⟩
 | _=>exact⟨_,h⟩
inductive spIsPick (C:Addr) (vs:List V) (H:Hp) (Q:VK) (E:XK):Prop
 | mk:∀th q v,vs= [v]->jS th C H q v->Q (.bl (decide (j7 q="pick"))) H->spIsPick C vs H Q E
theorem z7m:FnScope ["place"] ["place"] (zm z3h):=by walk_at "s"
theorem z7d(F:Fun K "is_pick" "is_pick" z3h f fd)(T:Txt K mg)(c:PC K C):FnOk P w K mg base CX0 1 f fd ["place"] (spIsPick C):=by
 refine F.okB z7m (λvs H Q E h=> ?_) (λvs H Q E h=> ?_)
 ·obtain⟨th,q,v,rfl,_⟩:=h
  rfl
 obtain⟨th,q,v,rfl,hp,fin⟩:=h;obtain⟨ws,⟨a,ah,hd,wl,dx,qv,b,xs,rfl,nd⟩,_⟩:=zU.mp hp;obtain⟨r,rfl⟩:=z0n nd.ahx;intro ac A outer d hr;refine⟨_,(zh (zt (cmE zK (ixT (zE v0 rfl) zb) zi))),?_⟩;generalize hK0:K=K1;generalize hK1:C=C1
 revert C1
 revert K1
 refine z0a (by walk_at "cl") ?_;refine !(yI c nd.me (zg nd.ahd zD ⟨rfl,?_⟩));rw [zW];exact fin
inductive spPickedP (C:Addr) (vs:List V) (H:Hp) (Q:VK) (E:XK):Prop
 | mk:∀th c q cv v,vs= [cv,v]->zI H c cv->jS th C H q v->(∀(x:Addr) (H':Hp),zz H H'->jS th C H' (.pick c q) (.ref x)->Q (.ref x) H')->spPickedP C vs H Q E
theorem z9r:FnScope ["condition","place"] ["condition","place"] (zm z4s):=by walk_at "s"
theorem z8O(F:Fun K "picked" "picked" z4s f fd)(T:Txt K mg)(o:PC K C)(d:KnC P w K mg base 1 "Place" ["self","ahead","heads","within"] (spPInit K C) C):FnOk P w K mg base CX0 3 f fd ["condition","place"] (spPickedP C):=by
 refine F.okB z9r (λvs H Q E h=> ?_) (λvs H Q E h=> ?_)
 ·obtain⟨th,c,q,cv,v,rfl,_⟩:=h
  rfl
 obtain⟨th,c,q,cv,v,rfl,hc,hp,fin⟩:=h;obtain⟨ws,⟨a,ah,hd,wl,dx,qv,b,xs,rfl,nd⟩,r⟩:=zU.mp hp;intro ac A outer s hr;refine⟨_,(zh (zt (yr d hr.m rfl (zH (zC (zo zi (zf v0 zd))) (zO (zE v1 rfl) (jL (zx (zf v1 zd)) zd)))))),?_⟩;generalize hK0:K=K1;generalize hK1:C=C1
 revert C1
 revert K1
 refine z0a (by walk_at "cl") ?_;refine !⟨(zq rfl),λtp l=> ?_⟩;refine zc (upd _ tp _) rfl l λH1 e x1=> ?_
 have p:=Ev.of (th:=th) (C:=C) (Nt.of e);refine !(z0D o (e _ _ nd.me) ?_);refine !⟨(zq rfl),λlp n=> ?_⟩;refine zc (upd _ lp _) rfl n λH2 i j=> ?_
 have s2:=e.trans i;refine jI (q:= .pick c q) (xs:= [.str "pick",cv]) (i _ _ x1) ⟨cv,rfl,hc.mono λb xs z=>s2 _ _ z⟩ (s2 _ _ nd.hds) j ⟨_,[],rfl,hp.ev (Ev.of (Nt.of s2)),rfl⟩ λx ai aO H' s' _ _ pl=>fin x H' (s2.trans s') pl
structure TxtM(K:W.Frag)(mg:Str->Option Value):Prop where
 all:mg "all"=none
 enumerate:mg "enumerate"=none
inductive spAmong (K:W.Frag) (vs:List V) (H:Hp) (Q:VK) (E:XK):Prop
 | mk:∀np hp (ns:List Str) (hs:List Str),vs= [.ref np,.ref hp]->H np=some (.lst (ns.map V.str))->H hp=some (.lst (hs.map V.str))->ns.length<=1000->(∀H',zz H H'->Q (.bl (jU ns hs)) H')->spAmong K vs H Q E
theorem z1W:∀{hs:List Str},inV (.str s) (hs.map V.str)=decide (s∈hs):=by
 intro hs;by_cases h:s∈hs
 ·rw [z5F h,wN h]
 ·rw [wI h];refine qW.mpr λz=>h ?_
  obtain⟨y,a,e⟩:=w14.mp z;obtain⟨n,hn,rfl⟩:=qA.mp a;have:n=s:=by simpa [eqV]using e
  exact this ▸ hn
theorem z9V:FnScope ["names","heads"] ["names","heads"] (zm z3O):=by walk_at "s"
theorem zaV(F:Fun K "among" "among" z3O f fd)(T:Txt K mg)(M:TxtM K mg):FnOk P w K mg base CX0 1 f fd ["names","heads"] (spAmong K):=by
 refine F.okB z9V (λvs H Q E h=> ?_) (λvs H Q E h=> ?_)
 ·obtain⟨np,hp,ns,hs,rfl,_⟩:=h
  rfl
 obtain⟨np,hp,ns,hs,rfl,h1,h2,hl,fin⟩:=h;intro ac A outer c hr;refine⟨_,(zh (zt (zQ (zaD rfl) rfl M.all z8T (z1g (yz rfl (CompSc.of (sx:=zm z3O) (NX:= ["names","heads"]) (fr:= ["heads"]) (ix:= [1]) rfl rfl (by decide +kernel)) (jb v0) (λ_ _ _ _ _ _=>jM) (λ_ _ _ _ _ _=>(z3N (z4C (K:=K) rfl) v0 v1 (by with_unfolding_all rfl)))) zd)))),?_⟩;generalize hK0:K=K1
 revert K1
 refine jo (by walk_at "cl") ?_;refine !⟨np,rfl,⟨_,SqL.of h1⟩,?_⟩;refine jF (xs:=ns.map V.str) (λi ys H'=>H'=H/\ys=(ns.take i).map λn=>V.bl (decide (n∈hs))) ⟨rfl,rfl⟩ ?_ ?_ ?_
 ·rintro i ys H' hi ⟨rfl,rfl⟩;exact⟨SqL.of h1,zG (by rw [w9,wS];lia)⟩
 ·rintro i y ys H' hi ⟨rfl,rfl⟩;rw [wO]at hi;cases hn:ns[i]? with
  | none=>rw [hn]at hi;cases hi
  | some n=>
   rw [hn]at hi;cases hi;refine !(!⟨hp,!⟨.inl (SqL.of h2),rfl,jd hs,rfl,?_⟩⟩);rw [q9,hn,wC]
   show _ ++ [V.bl (inV _ _)]=_
   rw [z1W]
   rfl
 ·rintro ys H' ⟨rfl,rfl⟩ lp b;refine zc (upd _ lp _) rfl b λH1 a x1=> ?_
  rw [w9,qB]at x1;refine⟨lp,ns.map λn=>decide (n∈hs),rfl,SqL.of (by rw [w0U];exact x1),?_⟩;have e:(ns.map λn=>decide (n∈hs)).all id=jU ns hs:=by rw [List.all_map];rfl
  rw [e];exact fin H1 a
inductive spJoinedBy (C:Addr) (vs:List V) (H:Hp) (Q:VK) (E:XK):Prop
 | mk:∀th x y q r cv v,vs= [cv,v]->zI H (.same (.nm x) (.nm y)) cv->jS th C H (.pair q r) v->(∀(z:Addr) (H':Hp),zz H H'->jS th C H' (yG th x y q r) (.ref z)->Q (.ref z) H')->spJoinedBy C vs H Q E
theorem kf:FnScope ["condition","pair","one","other"] ["condition","pair"] (zm z1J):=by walk_at "s"
theorem z5Q(F:Fun K "joined_by" "joined_by" z1J f fd)(T:Txt K mg)(e:PC K C)(c:KnC P w K mg base 1 "Place" ["self","ahead","heads","within"] (spPInit K C) C):FnOk P w K mg base CX0 3 f fd ["condition","pair"] (spJoinedBy C):=by
 refine F.okB kf (λvs H Q E h=> ?_) (λvs H Q E h=> ?_)
 ·obtain⟨th,x,y,q,r,cv,v,rfl,_⟩:=h
  rfl
 obtain⟨th,x,y,q,r,cv,v,rfl,⟨cp,rfl,hc⟩,hp,fin⟩:=h;obtain⟨w1,w2,⟨a,ah,hd,wl,dx,qv,b,xs,rfl,nd⟩,j,p2⟩:=id hp;obtain⟨us,⟨a1,D,o,t,z,u,b1,B,rfl,i⟩,_⟩:=zU.mp j;intro ac A outer G hr;refine⟨_,(ze (seT 2 kf (ixT v0 zb))
  (ze (seT 3 kf (ixT v0 zb))
  (ze (kO (jR yH v2 (zE (ixL (zE v1 rfl) zb) rfl) (by with_unfolding_all rfl))
   (ze (seT 2 kf (ixT v0 zb))
   (zh (seT 3 kf (ixT v0 zb))))
   zu)
  (zh (zt (yr c hr.m rfl (zH (zC (zo zi (zf v2 (zf v3 zd)))) (zO (zE v1 rfl) (zO (zE v1 rfl) zd))))))))),?_⟩
 generalize hK0:K=K1;generalize hK1:C=C1
 revert C1
 revert K1
 refine z0a (by walk_at "cl") ?_;refine !(zg hc jc ?_);refine !(zg hc ji ?_);refine⟨λσ H'=>∃m n,σ= [some (.ref cp),some (.ref a),some (.str m),some (.str n)]/\H'=H/\yG th x y q r= .join m n q r,?_,?_⟩
 ·refine !(!(k5 e nd.me (zw nd.wit zD (z0D e i.me ⟨o,!⟨.inl (SqL.of i.hds),rfl,jd _,!?_⟩⟩))));rw [show inV (Side.nm x).v ((za th q).map V.str)=decide (x∈za th q)from z1W];by_cases hx:x∈za th q
  ·refine ifF (by show(not (decide _))=false;rw [wN hx];rfl) ?_;exact⟨x,y,rfl,rfl,by unfold yG;rw [wU hx]⟩
  ·refine ifT (by show(not (decide _))=true;rw [wI hx];rfl) ?_;refine !(zg hc ji ?_);refine !(zg hc jc ?_);exact⟨y,x,rfl,rfl,by unfold yG;rw [wM hx]⟩
 rintro σ H' ⟨m,n,rfl,rfl,s⟩;refine !(!⟨(zq rfl),λtp p=> ?_⟩);refine zc (upd _ tp _) rfl p λH1 d x1=> ?_
 refine !(z0D e (d _ _ nd.me) ?_);refine !(k5 e (d _ _ nd.me) ?_);have l:=Ev.of (th:=th) (C:=C) (Nt.of d);refine jI (q:= .join m n q r) (xs:= [.str "join",.str m,.str n]) x1 rfl (d _ _ nd.hds) (d _ _ nd.wit) ⟨_,!⟨j.ev l,_,[],rfl,p2.ev l,rfl⟩⟩ λx ai aO H' s' _ _ pl=>fin x H' (d.trans s') (by rw [s];exact pl)
structure Two(th:Str->List Str)(mk:Qn->Qn->Qn)(ip:Bool):Prop where
 k:∀r s,kids (mk r s)= [r,s]
 h:∀r s,za th (mk r s)=za th r ++ za th s
 a:∀(H:Hp) (r s r' s':Qn) (xs:List V),kN H (mk r s) xs->kN H (mk r' s') xs
 p:ip=true->mk=Qn.pair
 w:∀r s,decide (j7 (mk r s)="pair")=ip
theorem zaq:Two th Qn.pair true:=⟨λ_ _=>rfl,λ_ _=>rfl,λ_ _ _ _ _ _ h=>h,λ_=>rfl,λ_ _=>by show decide (("pair":Str)="pair")=true;decide +kernel⟩
theorem zau{a b:Str}:Two th (Qn.join a b) false:=⟨λ_ _=>rfl,λ_ _=>rfl,λ_ _ _ _ _ _ h=>h,λz=>(by cases z),λ_ _=>by show decide (("join":Str)="pair")=false;decide +kernel⟩
theorem z6J(h:∀s,s∈ss↔s∈ns):jU ss hs=jU ns hs:=by
 rw [w0d,jv,jv];exact⟨λz n m=>z n ((h n).mpr m),λz n m=>z n ((h n).mp m)⟩
theorem z7R{a b:Side}(ok:(Cond.same a b).ok (hq ++ hr))(c:¬jU (Cond.same a b).cols hq=true)(d:¬jU (Cond.same a b).cols hr=true):∃x y,a= .nm x/\b= .nm y:=by
 have one:∀(x:Str),x∈hq ++ hr->(∀n∈(Cond.same a b).cols,n=x)->False:=λx e h=>by
  rcases wx.mp e with z | z
  ·exact c (jv.mpr λn m=>by rw [h n m];exact z)
  ·exact d (jv.mpr λn m=>by rw [h n m];exact z)
 cases a with
 | nm x=>cases b with
  | nm y=>exact⟨x,y,rfl,rfl⟩
  | nu j=>exact(one x ok.1 λn m=>by simpa [Cond.cols,Side.cols]using m).elim
 | nu i=>cases b with
  | nm y=>exact(one y ok.2 λn m=>by simpa [Cond.cols,Side.cols]using m).elim
  | nu j=>exact(c (jv.mpr λn m=>by simp [Cond.cols,Side.cols]at m)).elim
def zao(th:Str->List Str)(C:Addr)(H:Hp)(o:Option Qn)(Q:VK):Prop:=(∀q',o=some q'->∀(z:Addr) (H':Hp),zz H H'->jS th C H' q' (.ref z)->Q (.ref z) H')/\(o=none->∀H',zz H H'->Q .non H')
inductive spSentPart (C:Addr) (vs:List V) (H:Hp) (Q:VK) (E:XK):Prop
 | mk:∀th c (mk:Qn->Qn->Qn) ip r s cv v,vs= [cv,v]->Two th mk ip->zI H c cv->c.size<=20->c.ok (za th r ++ za th s)->jS th C H (mk r s) v->zao th C H (jz th c mk ip r s) Q->spSentPart C vs H Q E
theorem kI{v:V}(h:zI H c v):∃cp ys,v= .ref cp/\H cp=some (.tup (.str (wordOf c) :: ys)):=by
 cases c with
 | less a b=>obtain⟨p,rfl,hp⟩:=h;exact⟨p,!hp⟩
 | same a b=>obtain⟨p,rfl,hp⟩:=h;exact⟨p,!hp⟩
 | no c=>obtain⟨p,x,rfl,hp,_⟩:=h;exact⟨p,!hp⟩
 | an c d=>obtain⟨p,x,y,rfl,hp,_⟩:=h;exact⟨p,!hp⟩
 | or c d=>obtain⟨p,x,y,rfl,hp,_⟩:=h;exact⟨p,!hp⟩
theorem yA:FnScope ["condition","place","names","first","second"] ["condition","place"] (zm kQ):=by walk_at "s"
theorem z30(F:Fun K "sent_to_a_part" "sent_to_a_part" kQ f fd)(T:Txt K mg)(u:PC K C)(t:KnC P w K mg base 1 "Place" ["self","ahead","heads","within"] (spPInit K C) C)(d:Kn P w K mg base 1 "columns_of" ["condition"] (spCols K))(o:Kn P w K mg base 1 "among" ["names","heads"] (spAmong K))(i:Kn P w K mg base 3 "picked" ["condition","place"] (spPickedP C))(e:Kn P w K mg base 3 "joined_by" ["condition","pair"] (spJoinedBy C)):FnOk P w K mg base CX0 4 f fd ["condition","place"] (spSentPart C):=by
 refine F.okB yA (λvs H Q E h=> ?_) (λvs H Q E h=> ?_)
 ·obtain⟨th,c,mk,ip,r,s,cv,v,rfl,_⟩:=h
  rfl
 obtain⟨th,c,mk,ip,r,s,cv,v,rfl,B,hc,hz,ok,hp,G,D⟩:=h;obtain⟨ws,⟨a,ah,hd,wl,dx,qv,b,xs,rfl,nd⟩,hk⟩:=zU.mp hp;rw [B.k]at hk;obtain⟨w1,us,rfl,U,w2,eP,rfl,p2,rfl⟩:=hk;obtain⟨cR,⟨a1,xA,gL,sB,xB,gI,b1,xC,rfl,Z⟩,_⟩:=zU.mp U;obtain⟨eP,⟨a2,cs,bF,cN,ce,bP,b2,cH,rfl,Y⟩,_⟩:=zU.mp p2;intro ac A outer sh hr;refine⟨_,(ze (seT 2 yA (zV d hr.m (zf v0 zd)))
  (ze (seT 3 yA (ixL (zE v1 rfl) zb))
  (ze (seT 4 yA (ixL (zE v1 rfl) zb))
  (ze (zF (jq (zV o hr.m (zf v2 (zO (zE v3 rfl) zd))))
   (zh (zt (yr t hr.m rfl (zO (zE v1 rfl) (zO (zE v1 rfl) (jL (zx (zT (zV i hr.m (zf v0 (zf v3 zd))) (zf v4 zd))) zd))))))
   zu)
  (ze (zF (jq (zV o hr.m (zf v2 (zO (zE v4 rfl) zd))))
   (zh (zt (yr t hr.m rfl (zO (zE v1 rfl) (zO (zE v1 rfl) (jL (zx (zf v3 (zT (zV i hr.m (zf v0 (zf v4 zd))) zd))) zd))))))
   zu)
  (ze (zF (PW.pt (z0d (cmT zK (ixT (zE v1 rfl) zb) zi) (kX (cmT zK (ixT v0 zb) zi))))
   (zh (zt (zV e hr.m (zf v0 (zf v1 zd)))))
   zu)
  (zh (zt z2l)))))))),?_⟩
 generalize hK0:K=K1;generalize hK1:C=C1
 revert C1
 revert K1
 refine z0a (by walk_at "cl") ?_;have lc:=c.cols_le;refine !⟨c,cv,c.cols,rfl,hc,by lia,λs m=>m,by lia,λl ss H1 I x1 S mem _=> ?_⟩;have ls:ss.length<=c.cols.length:=yY S λn m=>(mem n).mp m
 refine !(k5 u (I _ _ nd.me) (zw (I _ _ nd.wit) zD ?_));refine !(k5 u (I _ _ nd.me) (zw (I _ _ nd.wit) jc ?_));refine !(!(z0D u (I _ _ Z.me) ⟨l,gL,ss,_,rfl,x1,I _ _ Z.hds,by lia,λH2 X=>!?_⟩));have s2:=I.trans X;rw [z6J mem];unfold jz at G D;by_cases h1:jU c.cols (za th r)=true
 ·rw [wU h1]at G;refine ifT h1 ?_;refine !(yI u (s2 _ _ nd.me) ?_);refine !(z0D u (s2 _ _ nd.me) ?_);refine !(!⟨th,c,r,cv,.ref a1,rfl,hc.mono λb xs z=>s2 _ _ z,U.ev (Ev.of (Nt.of s2)),λx J O pl=>!⟨(zq rfl),λlp R=> ?_⟩⟩);refine zc (upd _ lp _) rfl R λH4 N x4=> ?_
  have M:=s2.trans (O.trans N);refine jI (q:=mk (.pick c r) s) (xs:=xs) (M _ _ nd.ahd) (B.a _ _ _ _ _ _ (nd.ahx.mono λb xs z=>M _ _ z)) (by have:=M _ _ nd.hds;rw [B.h]at this ⊢;exact this) x4 (by rw [B.k];exact⟨_,!⟨pl.ev (Ev.of (Nt.of N)),_,[],rfl,p2.ev (Ev.of (Nt.of M)),rfl⟩⟩) λx ai aO H' s' _ _ pl=>G _ rfl x H' (M.trans s') pl
 rw [wM h1]at G D;refine ifF (qW.mpr h1) ?_;refine !(!(z0D u (s2 _ _ Y.me) ⟨l,bF,ss,_,rfl,X _ _ x1,s2 _ _ Y.hds,by lia,λJ O=>!?_⟩));have j:=s2.trans O;rw [z6J mem];by_cases h2:jU c.cols (za th s)=true
 ·rw [wU h2]at G;refine ifT h2 ?_;refine !(yI u (j _ _ nd.me) ?_);refine !(z0D u (j _ _ nd.me) ?_);refine !(!(!⟨th,c,s,cv,.ref a2,rfl,hc.mono λb xs z=>j _ _ z,p2.ev (Ev.of (Nt.of j)),λx H4 N pl=>⟨(zq rfl),λlp R=> ?_⟩⟩));refine zc (upd _ lp _) rfl R λH5 n5 x5=> ?_
  have L:=j.trans (N.trans n5);refine jI (q:=mk r (.pick c s)) (xs:=xs) (L _ _ nd.ahd) (B.a _ _ _ _ _ _ (nd.ahx.mono λb xs z=>L _ _ z)) (by have:=L _ _ nd.hds;rw [B.h]at this ⊢;exact this) x5 (by rw [B.k];exact⟨_,!⟨U.ev (Ev.of (Nt.of L)),_,[],rfl,pl.ev (Ev.of (Nt.of n5)),rfl⟩⟩) λx ai aO H' s' _ _ pl=>G _ rfl x H' (L.trans s') pl
 rw [wM h2]at G D;refine ifF (qW.mpr h2) ?_;obtain⟨xr,eQ⟩:=z0n nd.ahx;refine !(yI u (j _ _ nd.me) (zg (j _ _ nd.ahd) (by rw [eQ];exact zD) ⟨rfl,!?_⟩));rw [zW,B.w];cases ip with
 | false=>
  refine ifF rfl ?_;exact D rfl J j
 | true=>
  refine ifT rfl ?_;have em:mk=Qn.pair:=B.p rfl;obtain⟨cp,ys,rfl,aI⟩:=kI hc;refine !(zg (j _ _ aI) zD ⟨rfl,!?_⟩);rw [zW];subst em;by_cases hw:wordOf c="same"
  ·refine ifT (wN hw) ?_;cases c with
   | same x y=>
    obtain⟨m,n,rfl,rfl⟩:=z7R ok h1 h2;exact !(!⟨th,m,n,r,s,_,_,rfl,hc.mono λb xs z=>j _ _ z,hp.ev (Ev.of (Nt.of j)),λz H' s' pl=>G _ rfl z H' (j.trans s') pl⟩)
   | less x y=>exact absurd hw (nb (by kernel_rfl))
   | no x=>exact absurd hw (nb (by kernel_rfl))
   | an x y=>exact absurd hw (nb (by kernel_rfl))
   | or x y=>exact absurd hw (nb (by kernel_rfl))
  ·refine ifF (wI hw) ?_;cases c with
   | same x y=>exact absurd rfl hw
   | less x y=>exact D rfl J j
   | no x=>exact D rfl J j
   | an x y=>exact D rfl J j
   | or x y=>exact D rfl J j
theorem jT.app:∀{qs rs:List Qn} {vs us:List V},jT th C H qs vs->jT th C H rs us->jT th C H (qs ++ rs) (vs ++ us)
 | [],_,_,_,h,g=>by rw [show _= []from h];exact g
 | _ :: _,_,_,_,⟨v,ws,a,h1,h2⟩,g=>⟨v,ws ++ _,by rw [a];rfl,h1,h2.app g⟩
inductive spSentW (C:Addr) (vs:List V) (H:Hp) (Q:VK) (E:XK):Prop
 | mk:∀th c q cv v,vs= [cv,v]->zI H c cv->c.size<=20->c.ok (za th q)->jS th C H q v->zao th C H (jB th c q) Q->spSentW C vs H Q E
theorem z4w:FnScope ["condition","place"] ["condition","place"] (zm kT):=by walk_at "s"
theorem z4n(F:Fun K "sent_within" "sent_within" kT f fd)(T:Txt K mg)(t:PC K C)(n:KnC P w K mg base 1 "Place" ["self","ahead","heads","within"] (spPInit K C) C)(j:Kn P w K mg base 3 "picked" ["condition","place"] (spPickedP C))(d:Kn P w K mg base 4 "sent_to_a_part" ["condition","place"] (spSentPart C)):FnOk P w K mg base CX0 5 f fd ["condition","place"] (spSentW C):=by
 refine F.okB z4w (λvs H Q E h=> ?_) (λvs H Q E h=> ?_)
 ·obtain⟨th,c,q,cv,v,rfl,_⟩:=h
  rfl
 obtain⟨th,c,q,cv,v,rfl,hc,hz,ok,hp,B,D⟩:=h;obtain⟨ws,⟨a,ah,hd,wl,dx,qv,b,xs,rfl,nd⟩,X⟩:=zU.mp hp;obtain⟨cp,ys,rfl,aI⟩:=kI hc;obtain⟨xr,U⟩:=z0n nd.ahx;intro ac A outer sh hr;refine⟨_,(ze (zF (cmT zK (ixT v0 zb) zi)
   (zh (zt (zV j hr.m (zl (ixT v0 zb) (zT (zV j hr.m (zl (ixT v0 zb) (zf v1 zd))) zd)))))
   zu)
  (ze (zF (jR jO (ixT (zE v1 rfl) zb) (zC (zo zi (zo zi (zo zi zd)))) (by with_unfolding_all rfl))
   (zh (zt (yr n hr.m rfl (zO (zE v1 rfl) (zO (zE v1 rfl) (z1g (yz rfl (CompSc.of (sx:=zm kT) (NX:= ["condition","place"]) (fr:= ["condition"]) (ix:= [0]) rfl rfl (by decide +kernel)) (jb (zE v1 rfl)) (λ_ _ _ _ _ _=>jM) (λ_ _ _ _ _ _=>(zV j hr.m (zf v1 (zf v0 zd))))) zd))))))
   zu)
  (ze (zF (jR jO (ixT (zE v1 rfl) zb) (zC (zo zi (zo zi zd))) (by with_unfolding_all rfl))
   (zh (zt (zV d hr.m (zf v0 (zf v1 zd)))))
   zu)
  (zh (zt z2l))))),?_⟩
 generalize hK0:K=K1;generalize hK1:C=C1
 revert C1
 revert K1
 refine z0a (by walk_at "cl") ?_;refine !(zg aI zD ⟨rfl,!?_⟩);rw [zW];by_cases hw:wordOf c="and"
 ·refine ifT (wN hw) ?_;cases c with
  | an x y=>
   obtain⟨xD,c1,c2,e0,N,Z,k2⟩:=hc;cases e0;refine !(zg N jc ?_);refine !(zg N ji (!⟨th,y,q,c2,_,rfl,k2,hp,λz H1 l pl=> ?_⟩));exact⟨th,x,.pick y q,c1,_,rfl,Z.mono λb xs z=>l _ _ z,pl,λz' H2 J cy=>B _ rfl z' H2 (l.trans J) cy⟩
  | less x y=>exact absurd hw (nb (by kernel_rfl))
  | same x y=>exact absurd hw (nb (by kernel_rfl))
  | no x=>exact absurd hw (nb (by kernel_rfl))
  | or x y=>exact absurd hw (nb (by kernel_rfl))
 refine ifF (wI hw) ?_;have eW:jB th c q=z6X th c q:=by cases c <;> first | rfl | exact absurd rfl hw
 rw [eW]at B D;refine !(yI t nd.me (zg nd.ahd (by rw [U];exact zD) ⟨(zq rfl),λtp ax=> ?_⟩));refine zc (upd _ tp _) rfl ax λH1 l x1=> ?_
 refine⟨tp,!⟨.inr (SqT.of x1),rfl,rfl,!?_⟩⟩;have hl:=X.len;have lk:=z2N q;by_cases aQ:inV (.str (j7 q)) [.str "sort",.str "cols",.str "both"]=true
 ·refine ifT aQ ?_;obtain⟨q',e,ek,eh,ea⟩:∃q',z6X th c q=some q'/\kids q'=(kids q).map (Qn.pick c)/\za th q'=za th q/\∀(H:Hp) (xs:List V),kN H q xs->kN H q' xs:=by
   cases q with
   | sort x r=>exact !⟨rfl,rfl,λ_ _ h=>h⟩
   | cols ns r=>exact !⟨rfl,rfl,λ_ _ h=>h⟩
   | both r s=>exact !⟨rfl,rfl,λ_ _ h=>h⟩
   | _=>exact absurd aQ (qW.mp (by kernel_rfl))
  refine !(yI t (l _ _ nd.me) ?_);refine !(z0D t (l _ _ nd.me) ?_);refine !(k5 t (l _ _ nd.me) ⟨wl,rfl,⟨_,SqL.of (l _ _ nd.wit)⟩,?_⟩);refine jF (xs:=ws) (λi zs H'=>zz H1 H'/\zs.length=i/\jT th C H' (((kids q).take i).map (Qn.pick c)) zs) ⟨zz.refl _,rfl,by rw [w0u];rfl⟩ ?_ ?_ ?_
  ·rintro i zs H' hi ⟨o,I,_⟩;exact⟨SqL.of (o _ _ (l _ _ nd.wit)),zG (by lia)⟩
  ·rintro i y zs H' hi ⟨o,I,hq⟩;have Y:i < (kids q).length:=by rw [<-hl];exact(we.mp hi).1
   obtain⟨v,M,pv⟩:=X.at (wa Y);rw [hi]at M;cases M;have s1:=l.trans o;refine !(!⟨th,c,(kids q)[i],_,y,rfl,hc.mono λb xs z=>s1 _ _ z,pv.ev (Ev.of (Nt.of s1)),λx H3 L pl=>⟨o.trans L,by rw [wb,I];rfl,?_⟩⟩);rw [q9,wa Y,wC];exact(hq.ev (Ev.of (Nt.of L))).app ⟨_,[],rfl,pl,rfl⟩
  ·rintro zs H' ⟨o,I,hq⟩ lp ae;refine zc (upd _ lp _) rfl ae λH4 O x4=> ?_
   rw [hl,qB]at hq;have G:=l.trans (o.trans O);exact jI (q:=q') (xs:=xs) (G _ _ nd.ahd) (ea _ _ (nd.ahx.mono λb xs z=>G _ _ z)) (by rw [eh];exact G _ _ nd.hds) x4 (by rw [ek];exact hq.ev (Ev.of (Nt.of O))) λx ai aO H' s' _ _ pl=>B _ e x H' (G.trans s') pl
 refine ifF (qW.mpr aQ) ?_;refine !(yI t (l _ _ nd.me) (zg (l _ _ nd.ahd) (by rw [U];exact zD) ⟨(zq rfl),λu p=> ?_⟩));refine zc (upd _ u _) rfl p λH2 J x2=> ?_
 refine⟨u,!⟨.inr (SqT.of x2),rfl,rfl,!?_⟩⟩;have s2:=l.trans J;have S:=hp.ev (Ev.of (Nt.of s2));have R:zI H2 c (.ref cp):=hc.mono λb xs z=>s2 _ _ z
 cases q with
 | pair r s=>exact ifT (by show inV (.str "pair") _=true;decide +kernel) (!(!⟨th,c,.pair,true,r,s,_,_,rfl,zaq,R,hz,ok,S,λq' e z H' s' pl=>B q' e z H' (s2.trans s') pl,λe H' s'=>D e H' (s2.trans s')⟩))
 | join x y r s=>exact ifT (by show inV (.str "join") _=true;decide +kernel) (!(!⟨th,c,.join x y,false,r,s,_,_,rfl,zau,R,hz,ok,S,λq' e z H' s' pl=>B q' e z H' (s2.trans s') pl,λe H' s'=>D e H' (s2.trans s')⟩))
 | sort | cols | both=>exact absurd (by kernel_rfl) aQ
 | _=>exact ifF (by kernel_rfl) (D rfl H2 s2)
inductive spTakes (C:Addr) (vs:List V) (H:Hp) (Q:VK) (E:XK):Prop
 | mk:∀th c q cv v,vs= [v,cv]->zI H c cv->c.size<=20->c.ok (za th q)->jS th C H q v->(∀H',zz H H'->Q (.bl (jB th c q).isSome) H')->spTakes C vs H Q E
theorem zaQ:FnScope ["place","condition"] ["place","condition"] (zm z5W):=by walk_at "s"
theorem zaJ(F:Fun K "takes" "takes" z5W f fd)(T:Txt K mg)(a:Kn P w K mg base 5 "sent_within" ["condition","place"] (spSentW C)):FnOk P w K mg base CX0 6 f fd ["place","condition"] (spTakes C):=by
 refine F.okB zaQ (λvs H Q E h=> ?_) (λvs H Q E h=> ?_)
 ·obtain⟨th,c,q,cv,v,rfl,_⟩:=h
  rfl
 obtain⟨th,c,q,cv,v,rfl,hc,hz,ok,hp,fin⟩:=h;intro ac A outer b hr;refine⟨_,(zh (zt (cmE z8K (zV a hr.m (zf v1 (zf v0 zd))) z2l))),?_⟩;generalize hK0:K=K1;generalize hK1:C=C1
 revert C1
 revert K1
 refine z0a (by walk_at "cl") ?_;refine !(!⟨th,c,q,cv,v,rfl,hc,hz,ok,hp,λq' e z H' s' pl=>⟨rfl,?_⟩,λe H' s'=>⟨rfl,?_⟩⟩)
 ·have:=fin H' s';rw [e]at this;exact this
 ·have:=fin H' s';rw [e]at this;exact this
theorem kW(q:Qn):za th (beneath q)=za th q:=by
 induction q with
 | pick _ _ h=>exact h
 | _=>rfl
theorem z2K(h:¬j7 q="pick"):∀c r,q≠ .pick c r:=λc r e=>h (by rw [e];rfl)
theorem yW(h:j7 q="pick"):∃c r,q= .pick c r:=by
 cases q <;> first | exact⟨_,_,rfl⟩ | exact absurd h (qd (by kernel_rfl))
inductive spPasses (C:Addr) (vs:List V) (H:Hp) (Q:VK) (E:XK):Prop
 | mk:∀th c q cv v,vs= [cv,v]->zI H c cv->c.size<=20->c.ok (za th q)->jS th C H q v->(∀H',zz H H'->Q (.bl (jB th c (beneath q)).isSome) H')->spPasses C vs H Q E
theorem z32:FnScope ["condition","place","beneath"] ["condition","place"] (zm z3W):=by walk_at "s"
theorem z9d(F:Fun K "passes" "passes" z3W f fd)(T:Txt K mg)(o:PC K C)(e:Kn P w K mg base 1 "is_pick" ["place"] (spIsPick C))(i:Kn P w K mg base 6 "takes" ["place","condition"] (spTakes C)):FnOk P w K mg base CX0 7 f fd ["condition","place"] (spPasses C):=by
 refine F.okB z32 (λvs H Q E h=> ?_) (λvs H Q E h=> ?_)
 ·obtain⟨th,c,q,cv,v,rfl,_⟩:=h
  rfl
 obtain⟨th,c,q,cv,v,rfl,hc,hz,ok,hp,fin⟩:=h;intro ac A outer s hr;refine⟨_,(ze (seT 2 z32 v1)
  (ze (z6r (jq (zV e hr.m (zf v2 zd)))
   (zh (seT 2 z32 (ixL (zE v2 rfl) zb))))
  (zh (zt (zV i hr.m (zf v2 (zf v0 zd))))))),?_⟩
 generalize hK0:K=K1;generalize hK1:C=C1
 revert C1
 revert K1
 refine z0a (by walk_at "cl") ?_;refine !?_;refine z0H (λm σ H'=>∃(r:Qn) (u:V),σ= [some cv,some v,some u]/\H'=H/\jS th C H r u/\beneath r=beneath q/\m=depth r) (depth q) ⟨q,v,rfl,rfl,hp,rfl,rfl⟩ ?_;rintro m σ H' ⟨r,u,rfl,rfl,l,j,rfl⟩;refine !⟨th,r,u,rfl,l,?_⟩;refine !?_;by_cases hw:j7 r="pick"
 ·refine ifT (wN hw) ?_;obtain⟨d,t,rfl⟩:=yW hw;obtain⟨p,⟨a,ah,hd,wl,dx,qv,b,xs,rfl,nd⟩,pt⟩:=l;refine⟨λσ H2=>∃u,σ= [some cv,some v,some u]/\H2=H'/\jS th C H' t u,?_,?_⟩
  ·rintro σ' H2 ⟨u,rfl,rfl,h⟩;exact⟨depth t,by show depth t < depth t + 1;lia,t,u,rfl,rfl,h,j,rfl⟩
  ·refine !(k5 o nd.me (zw nd.wit zD ?_));exact !⟨rfl,pt⟩
 ·refine ifF (wI hw) ?_;rw [<-j,z2t (z2K hw)]at fin;have n:za th r=za th q:=by rw [<-kW r,j,kW]
  exact !(!⟨th,c,r,cv,u,rfl,hc,hz,by rw [n];exact ok,l,fin⟩)
theorem z5q:decide (wordOf c="and")=z4z c:=by
 cases c with
 | an x y=>show decide (("and":Str)="and")=true;decide +kernel
 | less x y=>show decide (("less":Str)="and")=false;decide +kernel
 | same x y=>show decide (("same":Str)="and")=false;decide +kernel
 | no x=>show decide (("not":Str)="and")=false;decide +kernel
 | or x y=>show decide (("or":Str)="and")=false;decide +kernel
theorem z61(h:¬j7 r="pick"):yw th (.pick c r)=jB th c r:=by
 cases r <;> first | rfl | exact absurd rfl h
inductive spTurnedPick (C:Addr) (vs:List V) (H:Hp) (Q:VK) (E:XK):Prop
 | mk:∀th (c:Cond) r v,vs= [v]->c.ok (za th r)->c.size<=20->jS th C H (.pick c r) v->zao th C H (yw th (.pick c r)) Q->spTurnedPick C vs H Q E
theorem z0s:FnScope ["place","condition","inner"] ["place"] (zm z0P):=by walk_at "s"
theorem z4A(F:Fun K "turned_pick" "turned_pick" z0P f fd)(T:Txt K mg)(x:PC K C)(l:Kn P w K mg base 1 "is_pick" ["place"] (spIsPick C))(i:Kn P w K mg base 5 "sent_within" ["condition","place"] (spSentW C))(n:Kn P w K mg base 7 "passes" ["condition","place"] (spPasses C))(j:Kn P w K mg base 3 "picked" ["condition","place"] (spPickedP C)):FnOk P w K mg base CX0 8 f fd ["place"] (spTurnedPick C):=by
 refine F.okB z0s (λvs H Q E h=> ?_) (λvs H Q E h=> ?_)
 ·obtain⟨th,c,r,v,rfl,_⟩:=h
  rfl
 obtain⟨th,c,r,v,rfl,ok,hz,hp,q,p⟩:=h;obtain⟨y,⟨a,ah,hd,wl,dx,qv,b,xs,rfl,nd⟩,s⟩:=id hp;obtain⟨cv,rfl,hc⟩:=id nd.ahx;obtain⟨cp,ys,rfl,B⟩:=kI hc;intro ac A outer U hr;refine⟨_,(ze (seT 1 z0s (ixT (zE v0 rfl) zb))
  (ze (seT 2 z0s (ixL (zE v0 rfl) zb))
  (ze (zF (PW.pt (z5n (cmT zK (ixT v1 zb) zi) (z3S (yF (jq (zV l hr.m (zf v2 zd)))))))
   (zh (zt (zV i hr.m (zf v1 (zf v2 zd)))))
   zu)
  (ze (zF (jq (zV n hr.m (zf v1 (zf v2 zd))))
   (zh (zt (zV j hr.m (zl (ixT (zE v2 rfl) zb) (zT (zV j hr.m (zf v1 (zl (ixL (zE v2 rfl) zb) zd))) zd)))))
   zu)
  (zh (zt z2l)))))),?_⟩
 generalize hK0:K=K1;generalize hK1:C=C1
 revert C1
 revert K1
 refine z0a (by walk_at "cl") ?_;refine !(yI x nd.me (zg nd.ahd jc ?_));refine !(k5 x nd.me (zw nd.wit zD ?_));refine !(zg B zD ⟨rfl,!?_⟩);rw [zW,z5q];by_cases ha:z4z c=true
 ·refine ifT ha ?_;have e:yw th (.pick c r)=jB th c r:=by
   by_cases hw:j7 r="pick"
   ·obtain⟨d,t,rfl⟩:=yW hw
    show(if z4z c=true then _ else _)=_
    rw [wU ha]
   ·exact z61 hw
  rw [e]at q p;exact !(!⟨th,c,r,_,y,rfl,hc,hz,ok,s,q,p⟩)
 ·refine ifF (qW.mpr ha) ?_;refine !⟨th,r,y,rfl,s,?_⟩;refine !?_;by_cases hw:j7 r="pick"
  ·rw [wN hw];refine ifF rfl ?_;obtain⟨d,t,rfl⟩:=yW hw;obtain⟨w2,⟨a2,R,S,Z,X,bP,b2,Y,rfl,u⟩,pt⟩:=id s;obtain⟨I,rfl,J⟩:=id u.ahx;have e:yw th (.pick c (.pick d t))=if(jB th c (beneath t)).isSome=true then some (.pick d (.pick c t))else none:=by
    show(if z4z c=true then _ else _)=_
    rw [wM ha]
   rw [e]at q p;refine !(!⟨th,c,.pick d t,_,_,rfl,hc,hz,ok,s,λH1 o=>!?_⟩);have O:beneath (.pick d t)=beneath t:=rfl;rw [O];by_cases hs:(jB th c (beneath t)).isSome=true
   ·rw [wU hs]at q;refine ifT hs ?_;refine !(yI x (o _ _ u.me) (zg (o _ _ u.ahd) jc ?_));refine !(!(k5 x (o _ _ u.me) (zw (o _ _ u.wit) zD ⟨th,c,t,_,w2,rfl,hc.mono λb xs z=>o _ _ z,pt.ev (Ev.of (Nt.of o)),λz H2 M pl=> ?_⟩)));have s2:=o.trans M;exact⟨th,d,.pick c t,I,_,rfl,J.mono λb xs z=>s2 _ _ z,pl,λL N D G=>q _ rfl L N (s2.trans D) G⟩
   ·rw [wM hs]at p;refine ifF (qW.mpr hs) ?_;exact p rfl H1 o
  ·rw [wI hw];refine ifT rfl ?_;rw [z61 hw]at q p;exact !(!⟨th,c,r,_,y,rfl,hc,hz,ok,s,q,p⟩)
theorem z6R{hd:Addr}(ha:H ah=some (.tup xs))(c:kN H q xs)(s:H hd=some (.lst ((za th q).map V.str)))(t:H wl=some (.lst ws))(hp:jT th C H (kids q) ws)
  (fin:∀(x:Addr) (H':Hp),zz H H'->jS th C H' q (.ref x)->R x .non H'):
  ∀x dx,H x=none->H dx=none->dx≠x->spPInit K C (.ref x :: ([.ref ah,.ref hd,.ref wl] ++ [])) (upd (upd H dx (.own x)) x (.ins C dx [])) (R x) E:=by
 intro x dx h u j;obtain⟨D,q',f,ai,l,i,bL,r,A,e,h1,h2,B,p,a,w⟩:=jI (K:=K) (E:=E) (Q:=λv H'=>∀z,v= .ref z->R z .non H') ha c s t hp (λz ai aO H' s' _ _ pl y o=>by cases o;exact fin z H' s' pl) x dx h u j;exact⟨D,q',f,ai,l,i,bL,r,A,e,h1,h2,B,p,a,λqv H' b n d=>(w qv H' b n d).2 x rfl⟩
theorem z0G(h:j7 q="first"):∃n r,q= .first n r:=by
 cases q <;> first | exact⟨_,_,rfl⟩ | exact absurd h (qd (by kernel_rfl))
theorem kP(h:j7 q="cols"):∃ns r,q= .cols ns r:=by
 cases q <;> first | exact⟨_,_,rfl⟩ | exact absurd h (qd (by kernel_rfl))
theorem z1f(h:j7 q="sort"):∃a r,q= .sort a r:=by
 cases q <;> first | exact⟨_,_,rfl⟩ | exact absurd h (qd (by kernel_rfl))
inductive spTurnedFirst (C:Addr) (vs:List V) (H:Hp) (Q:VK) (E:XK):Prop
 | mk:∀th n r v,vs= [v]->jS th C H (.first n r) v->zao th C H (yw th (.first n r)) Q->spTurnedFirst C vs H Q E
theorem z0b:FnScope ["place","inner","beneath"] ["place"] (zm z0y):=by walk_at "s"
theorem z3z(F:Fun K "turned_first" "turned_first" z0y f fd)(T:Txt K mg)(e:PC K C)(c:KnC P w K mg base 1 "Place" ["self","ahead","heads","within"] (spPInit K C) C):FnOk P w K mg base CX0 3 f fd ["place"] (spTurnedFirst C):=by
 refine F.okB z0b (λvs H Q E h=> ?_) (λvs H Q E h=> ?_)
 ·obtain⟨th,n,r,v,rfl,_⟩:=h
  rfl
 obtain⟨th,n,r,v,rfl,hp,B,I⟩:=h;obtain⟨wv,⟨a,ah,hd,wl,dx,qv,b,xs,rfl,nd⟩,N⟩:=id hp;have ex:xs= [.str "first",.int n]:=nd.ahx;subst ex;obtain⟨us,⟨a2,cs,R,Y,S,Z,b2,G,rfl,d⟩,y⟩:=zU.mp N;obtain⟨U,D⟩:=z0n d.ahx;intro ac A outer sh hr;refine⟨_,(ze (seT 1 z0b (ixL (zE v0 rfl) zb))
  (ze (zF (cmT zK (ixT (zE v1 rfl) zb) zi)
   (zh (zt (yr c hr.m rfl (zH (zC (zo zi (zT (zQ (z59 rfl) rfl T.min PyProof.Rows.boot_min (zl (ixT (zE v0 rfl) zb) (zl (ixT (zE v1 rfl) zb) zd))) zd))) (zO (zE v0 rfl) (zO (zE v1 rfl) zd))))))
   zu)
  (ze (zF (cmT zK (ixT (zE v1 rfl) zb) zi)
   (ze (seT 2 z0b (ixL (zE v1 rfl) zb))
   (zh (zt (yr c hr.m rfl (zO (zE v1 rfl) (zO (zE v1 rfl) (jL (zx (zT (yr c hr.m rfl (zO (zE v0 rfl) (zO (zE v2 rfl) (jL (zx (zf v2 zd)) zd)))) zd)) zd)))))))
   zu)
  (zh (zt z2l))))),?_⟩
 generalize hK0:K=K1;generalize hK1:C=C1
 revert C1
 revert K1
 refine z0a (by walk_at "cl") ?_;refine !(k5 e nd.me (zw nd.wit zD ?_));refine !(yI e d.me (zg d.ahd (by rw [D];exact zD) ⟨rfl,!?_⟩));rw [zW];by_cases h1:j7 r="first"
 ·refine ifT (wN h1) ?_;obtain⟨m,t,rfl⟩:=z0G h1;have ex2:G= [.str "first",.int m]:=d.ahx;subst ex2;refine !(yI e nd.me (zg nd.ahd jc ?_));refine !(yI e d.me (zg d.ahd jc ⟨n,m,rfl,(zq rfl),λtp J=> ?_⟩));refine zc (upd _ tp _) rfl J λH1 i x1=> ?_
  rw [show(if m < n then m else n)=min n m by split <;> lia]at x1;refine !(z0D e (i _ _ nd.me) ?_);refine !(k5 e (i _ _ d.me) ?_);exact jI (q:= .first (min n m) t) (xs:= [.str "first",.int (min n m)]) x1 rfl (i _ _ nd.hds) (i _ _ d.wit) (y.ev (Ev.of (Nt.of i))) λx ai aO H' s' _ _ pl=>B _ rfl x H' (i.trans s') pl
 refine ifF (wI h1) ?_;refine !(yI e d.me (zg d.ahd (by rw [D];exact zD) ⟨rfl,!?_⟩));rw [zW];by_cases h2:j7 r="cols"
 ·refine ifT (wN h2) ?_;obtain⟨ns,t,rfl⟩:=kP h2;obtain⟨w3,D3,rfl,s,rfl⟩:=y;obtain⟨D4,⟨a3,D5,X,O,D8,D9,b3,Da,rfl,u⟩,_⟩:=zU.mp s;refine !(k5 e d.me (zw d.wit zD ?_));refine !(yI e d.me ?_);refine !(z0D e d.me ?_);refine !(yI e nd.me ?_);refine !(z0D e u.me ?_);refine !⟨(zq rfl),λlp L=> ?_⟩;refine zc (upd _ lp _) rfl L λH1 i x1=> ?_
  refine z6R (q:= .first n t) (xs:= [.str "first",.int n]) (i _ _ nd.ahd) rfl (i _ _ u.hds) x1 ⟨_,[],rfl,s.ev (Ev.of (Nt.of i)),rfl⟩ λx H2 s2 pl=>⟨rfl,(zq rfl),λo j=> ?_⟩
  refine zc (upd _ o _) rfl j λH3 p M=> ?_
  have l:=i.trans (s2.trans p);exact jI (q:= .cols ns (.first n t)) (xs:=G) (l _ _ d.ahd) (d.ahx.mono λb xs z=>l _ _ z) (l _ _ d.hds) M ⟨_,[],rfl,pl.ev (Ev.of (Nt.of p)),rfl⟩ λx ai aO H' s' _ _ pl=>B _ rfl x H' (l.trans s') pl
 refine ifF (wI h2) ?_;refine I ?_ H (zz.refl _);cases r <;> first | rfl | exact absurd rfl h1 | exact absurd rfl h2
theorem zbS(h:kN H q xs):∀v∈xs,yM v=true\/∃p zs,v= .ref p/\SqT K H p zs:=by
 cases q with
 | pick c q=>
  obtain⟨x,rfl,hc⟩:=h;obtain⟨p,ys,rfl,hp⟩:=kI hc;intro v m;simp only [wE,qf,Qu]at m;rcases m with rfl | rfl
  ·exact .inl rfl
  ·exact .inr ⟨p,!(SqT.of hp)⟩
 | cols ns q=>
  obtain⟨x,rfl,d⟩:=h;intro v m;simp only [wE,qf,Qu]at m;rcases m with rfl | rfl
  ·exact .inl rfl
  ·exact .inr ⟨x,!(SqT.of d)⟩
 | table n=>
  intro v m;rw [show xs=_ from h]at m;simp only [wE,qf,Qu]at m;rcases m with rfl | rfl <;> exact .inl rfl
 | pair q r=>
  intro v m;rw [show xs=_ from h]at m;simp only [wE,qf,Qu]at m;rcases m with rfl <;> exact .inl rfl
 | join a b q r=>
  intro v m;rw [show xs=_ from h]at m;simp only [wE,qf,Qu]at m;rcases m with rfl | rfl | rfl <;> exact .inl rfl
 | both q r=>
  intro v m;rw [show xs=_ from h]at m;simp only [wE,qf,Qu]at m;rcases m with rfl <;> exact .inl rfl
 | first n q=>
  intro v m;rw [show xs=_ from h]at m;simp only [wE,qf,Qu]at m;rcases m with rfl | rfl <;> exact .inl rfl
 | group a b n s q=>
  intro v m;rw [show xs=_ from h]at m;simp only [wE,qf,Qu]at m;rcases m with rfl | rfl | rfl | rfl | rfl <;> exact .inl rfl
 | sort a q=>
  intro v m;rw [show xs=_ from h]at m;simp only [wE,qf,Qu]at m;rcases m with rfl | rfl <;> exact .inl rfl
theorem zbL{a:Str}(h:kN H q xs):xs=(["sort",a]:List Str).map V.str↔∃r,q= .sort a r:=by
 constructor
 ·intro e;obtain⟨r,c⟩:=z0n h;rw [e]at c;have d:j7 q="sort":=by
   have:=(List.cons.inj c).1
   injection this with this
   exact this.symm
  obtain⟨b,t,rfl⟩:=z1f d;rw [show xs=_ from h]at e;have:=(List.cons.inj (List.cons.inj e).2).1
  injection this with this
  rw [this];exact⟨t,rfl⟩
 ·rintro⟨r,rfl⟩;exact h
inductive spTurned (C:Addr) (vs:List V) (H:Hp) (Q:VK) (E:XK):Prop
 | mk:∀th q v,vs= [v]->wfQ th q->jS th C H q v->zao th C H (yw th q) Q->spTurned C vs H Q E
theorem z5w:FnScope ["place","word"] ["place"] (zm z3T):=by walk_at "s"
theorem z9j(F:Fun K "turned" "turned" z3T f fd)(T:Txt K mg)(j:PC K C)(o:KnC P w K mg base 1 "Place" ["self","ahead","heads","within"] (spPInit K C) C)(i:Kn P w K mg base 8 "turned_pick" ["place"] (spTurnedPick C))(d:Kn P w K mg base 3 "turned_first" ["place"] (spTurnedFirst C)):FnOk P w K mg base CX0 9 f fd ["place"] (spTurned C):=by
 refine F.okB z5w (λvs H Q E h=> ?_) (λvs H Q E h=> ?_)
 ·obtain⟨th,q,v,rfl,_⟩:=h
  rfl
 obtain⟨th,q,v,rfl,wf,hp,u,p⟩:=h;obtain⟨ws,⟨a,ah,hd,wl,dx,qv,b,xs,rfl,nd⟩,z⟩:=zU.mp hp;obtain⟨Y,N⟩:=z0n nd.ahx;intro ac A outer X hr;have O:=z1u hr;refine⟨_,(ze (seT 1 z5w (ixT (zE v0 rfl) zb))
  (ze (zF (cmT zK v1 zi)
   (zh (zt (zV i hr.m (zf v0 zd))))
   zu)
  (ze (zF (cmT zK v1 zi)
   (zh (zt (zV d hr.m (zf v0 zd))))
   zu)
  (ze (zF (PW.pt (z0d (cmT zK v1 zi) (kX (cmT zK (ixT (zE (ixL (zE v0 rfl) zb) rfl) zb) zi))))
   (zh (zt (yr o hr.m rfl (zO (zE v0 rfl) (zO (zE v0 rfl) (zO (zE (ixL (zE v0 rfl) zb) rfl) zd))))))
   zu)
  (ze (zF (PW.pt (z0d (cmT zK v1 zi) (kX (cmT (z76 (K:=K) rfl O) (zE (ixL (zE v0 rfl) zb) rfl) (zE v0 rfl)))))
   (zh (zt (ixL (zE v0 rfl) zb)))
   zu)
  (zh (zt z2l))))))),?_⟩
 generalize hK0:K=K1;generalize hK1:C=C1
 revert C1
 revert K1
 refine z0a (by walk_at "cl") ?_;refine !(yI j nd.me (zg nd.ahd (by rw [N];exact zD) ?_));refine !⟨rfl,!?_⟩;rw [zW];by_cases h1:j7 q="pick"
 ·refine ifT (wN h1) ?_;obtain⟨c,r,rfl⟩:=yW h1;exact !⟨th,c,r,_,rfl,wf.1,wf.2.1,hp,u,p⟩
 refine ifF (wI h1) ?_;refine !⟨rfl,!?_⟩;rw [zW];by_cases h2:j7 q="first"
 ·refine ifT (wN h2) ?_;obtain⟨n,r,rfl⟩:=z0G h2;exact !⟨th,n,r,_,rfl,hp,u,p⟩
 refine ifF (wI h2) ?_;refine !⟨rfl,!?_⟩;rw [zW];by_cases h3:j7 q="cols"
 ·refine ifT (wN h3) ?_;obtain⟨ns,r,rfl⟩:=kP h3;obtain⟨w2,I,rfl,s,rfl⟩:=id z;obtain⟨us,⟨a2,y,L,R,M,J,b2,D,rfl,l⟩,B⟩:=zU.mp s;obtain⟨S,G⟩:=z0n l.ahx;refine !(k5 j nd.me (zw nd.wit zD (yI j l.me (zg l.ahd (by rw [G];exact zD) ⟨rfl,!?_⟩))));rw [zW];by_cases h4:j7 r="cols"
  ·refine ifT (wN h4) ?_;obtain⟨U,t,rfl⟩:=kP h4;refine !(yI j nd.me (!(z0D j nd.me (!(k5 j nd.me (zw nd.wit zD (k5 j l.me ?_)))))));exact jI (q:= .cols ns t) (xs:=xs) nd.ahd nd.ahx nd.hds l.wit B λx ai aO H' s' _ _ pl=>u _ rfl x H' s' pl
  ·refine ifF (wI h4) ?_;refine !⟨rfl,!?_⟩;rw [zW];refine ifF (wI (nb (by kernel_rfl))) ?_;refine p ?_ H (zz.refl _);cases r <;> first | rfl | exact absurd rfl h4
 refine ifF (wI h3) ?_;refine !⟨rfl,!?_⟩;rw [zW];by_cases h4:j7 q="sort"
 ·refine ifT (wN h4) ?_;obtain⟨n,r,rfl⟩:=z1f h4;obtain⟨w2,I,rfl,s,rfl⟩:=id z;obtain⟨us,⟨a2,y,L,R,M,J,b2,D,rfl,l⟩,B⟩:=zU.mp s;have ex:xs=(["sort",n]:List Str).map V.str:=nd.ahx;refine !(k5 j nd.me (zw nd.wit zD (yI j l.me (!(yI j nd.me ⟨y,ah,D,["sort",n],rfl,rfl,SqT.of l.ahd,SqT.of (by rw [<-ex];exact nd.ahd),zbS l.ahx,λt ht=>!?_⟩)))));have hs:=zbL (a:=n) l.ahx;by_cases h5:t=true
  ·refine ifT h5 ?_;obtain⟨t',rfl⟩:=hs.mp (ht.mp h5);refine !(k5 j nd.me (zw nd.wit zD ?_));exact u (.sort n t') (by show(if n=n then _ else _)=_;rw [wU rfl]) a2 H (zz.refl _) s
  ·refine ifF (qW.mpr h5) ?_;refine p ?_ H (zz.refl _);cases r with
   | sort m t'=>
    show(if m=n then _ else _)=_
    rw [wM λe=>h5 (ht.mpr (hs.mpr ⟨t',by rw [e]⟩))]
   | _=>rfl
 refine ifF (wI h4) ?_;refine p ?_ H (zz.refl _);cases q <;> first | rfl | exact absurd rfl h1 | exact absurd rfl h2 | exact absurd rfl h3 | exact absurd rfl h4
theorem z6f(h:j7 q="table"):∃n,q= .table n:=by
 cases q <;> first | exact⟨_,rfl⟩ | exact absurd h (qd (by kernel_rfl))
theorem z7t(h:j7 q="pair"):∃r s,q= .pair r s:=by
 cases q <;> first | exact⟨_,_,rfl⟩ | exact absurd h (qd (by kernel_rfl))
theorem z4v(h:j7 q="join"):∃a b r s,q= .join a b r s:=by
 cases q <;> first | exact⟨_,_,_,_,rfl⟩ | exact absurd h (qd (by kernel_rfl))
theorem z7C(h:j7 q="both"):∃r s,q= .both r s:=by
 cases q <;> first | exact⟨_,_,rfl⟩ | exact absurd h (qd (by kernel_rfl))
theorem z6K(h:j7 q="group"):∃a b n s r,q= .group a b n s r:=by
 cases q <;> first | exact⟨_,_,_,_,_,rfl⟩ | exact absurd h (qd (by kernel_rfl))
theorem z6v:∀{ns a:List Str},ns.map V.str=a.map V.str->ns=a
 | [],[],_=>rfl
 | [],_ :: _,h=>by cases h
 | _ :: _,[],h=>by cases h
 | n :: ns,m :: a,h=>by
  rw [wR,wR]at h
  injection h with h1 h2
  injection h1 with h1
  rw [h1,z6v h2]
theorem z2U{a b:Side}(h:a.v=b.v):a=b:=by
 cases a <;> cases b <;> first | (injection h with h;rw [h]) | cases h
theorem z1b{d:Cond}{v:V}(h:zI H c v)(g:zI H d v):wordOf c=wordOf d:=by
 obtain⟨p,ys,rfl,hp⟩:=kI h;obtain⟨p',a,e,aa⟩:=kI g;cases e;rw [hp]at aa
 injection aa with aa
 injection aa with aa
 injection aa with aa _
 injection aa with aa
theorem z9C:∀{d:Cond} {v:V},zI H c v->zI H d v->c=d:=by
 induction c with
 | less a b=>
  intro d' v h g;have f:=z1b h g;cases d' with
  | less a' b'=>
   obtain⟨p,rfl,hp⟩:=h;obtain⟨p',e,aa⟩:=g;cases e;rw [hp]at aa
   injection aa with aa
   injection aa with aa
   injection aa with _ aa
   injection aa with h1 aa
   injection aa with h2 _
   rw [z2U h1,z2U h2]
  | _=>exact absurd f (qd (by kernel_rfl))
 | same a b=>
  intro d' v h g;have f:=z1b h g;cases d' with
  | same a' b'=>
   obtain⟨p,rfl,hp⟩:=h;obtain⟨p',e,aa⟩:=g;cases e;rw [hp]at aa
   injection aa with aa
   injection aa with aa
   injection aa with _ aa
   injection aa with h1 aa
   injection aa with h2 _
   rw [z2U h1,z2U h2]
  | _=>exact absurd f (qd (by kernel_rfl))
 | no c q=>
  intro d' v h g;have f:=z1b h g;cases d' with
  | no c'=>
   obtain⟨p,x,rfl,hp,h1⟩:=h;obtain⟨p',o,e,aa,l⟩:=g;cases e;rw [hp]at aa
   injection aa with aa
   injection aa with aa
   injection aa with _ aa
   injection aa with e1 _
   subst e1;rw [q h1 l]
  | _=>exact absurd f (qd (by kernel_rfl))
 | an c d j i=>
  intro d' v h g;have f:=z1b h g;cases d' with
  | an c' d'=>
   obtain⟨p,x,y,rfl,hp,h1,h2⟩:=h;obtain⟨p',o,r,e,aa,l,n⟩:=g;cases e;rw [hp]at aa
   injection aa with aa
   injection aa with aa
   injection aa with _ aa
   injection aa with e1 aa
   injection aa with e2 _
   subst e1 e2;rw [j h1 l,i h2 n]
  | _=>exact absurd f (qd (by kernel_rfl))
 | or c d j i=>
  intro d' v h g;have f:=z1b h g;cases d' with
  | or c' d'=>
   obtain⟨p,x,y,rfl,hp,h1,h2⟩:=h;obtain⟨p',o,r,e,aa,l,n⟩:=g;cases e;rw [hp]at aa
   injection aa with aa
   injection aa with aa
   injection aa with _ aa
   injection aa with e1 aa
   injection aa with e2 _
   subst e1 e2;rw [j h1 l,i h2 n]
  | _=>exact absurd f (qd (by kernel_rfl))
theorem z5N{v:V}(h:QAt H q v):∃p xs kv,v= .ref p/\H p=some (.tup (xs ++ kv))/\kN H q xs/\yu H (kids q) kv:=by
 cases q with
 | table n=>obtain⟨p,rfl,hp⟩:=h;exact⟨p,_,[],rfl,hp,rfl,rfl⟩
 | pick c q=>obtain⟨p,x,y,rfl,hp,e,d⟩:=h;exact⟨p,[_,_],[y],rfl,hp,⟨x,rfl,e⟩,y,[],rfl,d,rfl⟩
 | cols ns q=>obtain⟨p,x,y,rfl,hp,e,d⟩:=h;exact⟨p,[_,_],[y],rfl,hp,⟨x,rfl,e⟩,y,[],rfl,d,rfl⟩
 | first n q=>obtain⟨p,y,rfl,hp,d⟩:=h;exact⟨p,[_,_],[y],rfl,hp,rfl,y,[],rfl,d,rfl⟩
 | group a b n s q=>obtain⟨p,y,rfl,hp,d⟩:=h;exact⟨p,[_,_,_,_,_],[y],rfl,hp,rfl,y,[],rfl,d,rfl⟩
 | sort a q=>obtain⟨p,y,rfl,hp,d⟩:=h;exact⟨p,[_,_],[y],rfl,hp,rfl,y,[],rfl,d,rfl⟩
 | pair q r=>obtain⟨p,x,y,rfl,hp,e,d⟩:=h;exact⟨p,[_],[x,y],rfl,hp,rfl,x,[y],rfl,e,y,[],rfl,d,rfl⟩
 | join a b q r=>obtain⟨p,x,y,rfl,hp,e,d⟩:=h;exact⟨p,[_,_,_],[x,y],rfl,hp,rfl,x,[y],rfl,e,y,[],rfl,d,rfl⟩
 | both q r=>obtain⟨p,x,y,rfl,hp,e,d⟩:=h;exact⟨p,[_],[x,y],rfl,hp,rfl,x,[y],rfl,e,y,[],rfl,d,rfl⟩
theorem z0k{v:V}(h:QAt H q v)(g:QAt H r v):j7 r=j7 q:=by
 obtain⟨p,xs,kv,rfl,hp,ha,_⟩:=z5N h;obtain⟨p',c,b,e,aa,a,_⟩:=z5N g;cases e;obtain⟨z,rfl⟩:=z0n ha;obtain⟨d,rfl⟩:=z0n a;rw [hp,List.cons_append,List.cons_append]at aa
 injection aa with aa
 injection aa with aa
 injection aa with aa _
 injection aa with aa
 exact aa.symm
theorem zdK:∀{r:Qn} {v:V},QAt H q v->QAt H r v->q=r:=by
 induction q with
 | table n=>
  intro r' v h g;obtain⟨u,rfl⟩:=z6f (z0k h g);obtain⟨p,rfl,hp⟩:=h;obtain⟨p',e,aa⟩:=g;cases e;rw [hp]at aa;cases aa
  rfl
 | pick c q l=>
  intro r' v h g;obtain⟨c',q',rfl⟩:=yW (z0k h g);obtain⟨p,x,y,rfl,hp,h1,h2⟩:=h;obtain⟨p',t,o,e,aa,f,d⟩:=g;cases e;rw [hp]at aa;cases aa;rw [z9C h1 f,l h2 d]
 | cols ns q l=>
  intro r' v h g;obtain⟨w,q',rfl⟩:=kP (z0k h g);obtain⟨p,x,y,rfl,hp,h1,h2⟩:=h;obtain⟨p',t,o,e,aa,f,d⟩:=g;cases e;rw [hp]at aa;cases aa;rw [h1]at f
  injection f with f
  injection f with f
  rw [z6v f,l h2 d]
 | pair q r j i=>
  intro r' v h g;obtain⟨q',r',rfl⟩:=z7t (z0k h g);obtain⟨p,x,y,rfl,hp,h1,h2⟩:=h;obtain⟨p',t,o,e,aa,f,d⟩:=g;cases e;rw [hp]at aa;cases aa;rw [j h1 f,i h2 d]
 | join a b q r j i=>
  intro r' v h g;obtain⟨a',b',q',r',rfl⟩:=z4v (z0k h g);obtain⟨p,x,y,rfl,hp,h1,h2⟩:=h;obtain⟨p',t,o,e,aa,f,d⟩:=g;cases e;rw [hp]at aa;cases aa;rw [j h1 f,i h2 d]
 | both q r j i=>
  intro r' v h g;obtain⟨q',r',rfl⟩:=z7C (z0k h g);obtain⟨p,x,y,rfl,hp,h1,h2⟩:=h;obtain⟨p',t,o,e,aa,f,d⟩:=g;cases e;rw [hp]at aa;cases aa;rw [j h1 f,i h2 d]
 | first n q l=>
  intro r' v h g;obtain⟨u,q',rfl⟩:=z0G (z0k h g);obtain⟨p,y,rfl,hp,h2⟩:=h;obtain⟨p',o,e,aa,d⟩:=g;cases e;rw [hp]at aa;cases aa;rw [l h2 d]
 | group a b n s q l=>
  intro r' v h g;obtain⟨a',b',u,s',q',rfl⟩:=z6K (z0k h g);obtain⟨p,y,rfl,hp,h2⟩:=h;obtain⟨p',o,e,aa,d⟩:=g;cases e;rw [hp]at aa;cases aa;rw [l h2 d]
 | sort a q l=>
  intro r' v h g;obtain⟨a',q',rfl⟩:=z1f (z0k h g);obtain⟨p,y,rfl,hp,h2⟩:=h;obtain⟨p',o,e,aa,d⟩:=g;cases e;rw [hp]at aa;cases aa;rw [l h2 d]
theorem NodeAt.ev{a hd:Addr}{b1:Bool}(e:Ev th C H H1)(h:NodeAt th C H q a ws ah hd wl dx qv b xs)(h1:H1 a=some (.ins C dx (jD ah hd wl qv b1)))(o:b1=b\/nf th q):NodeAt th C H1 q a ws ah hd wl dx qv b1 xs:=by
 have c:∀b xs,H b=some (.tup xs)->H1 b=some (.tup xs):=λb xs z=>e.tup z
 refine⟨h1,e.tup h.ahd,h.ahx.mono c,e.lst h.hds,e.lst h.wit,h.qst.mono c,λz=> ?_⟩;rcases o with rfl | o
 ·exact h.set z
 ·exact o
def Ev.refl(H:Hp):Ev th C H H:=Ev.of (Nt.refl H)
theorem Ev.trans(x:Ev th C H H1)(y:Ev th C H1 H2):Ev th C H H2:=by
 refine⟨λb o e n m=>y.t b o (x.t b o e n m) n m,λa dx ah hd wl qv b e=> ?_⟩;obtain⟨b1,f,c⟩:=x.n a dx ah hd wl qv b e;obtain⟨b2,h,d⟩:=y.n a dx ah hd wl qv b1 f;refine⟨b2,h,?_⟩;rcases d with rfl | ⟨rfl,d⟩
 ·exact c
 ·refine .inr ⟨rfl,λq ws xs nd=> ?_⟩;refine d q ws xs (nd.ev x f ?_);rcases c with rfl | ⟨_,c⟩
  ·exact .inl rfl
  ·exact .inr (c q ws xs nd)
theorem z91{a hd:Addr}(h:NodeAt th C H q a ws ah hd wl dx qv b xs)(n:nf th q):Ev th C H (upd H a (.ins C dx (jD ah hd wl qv true))):=by
 refine⟨λb' o e _ m=> ?_,λa' ai d c bL aO b' e=> ?_⟩
 ·rw [zn λz=>by rw [z,h.me]at e;cases e;exact m _ _ _ rfl];exact e
 ·by_cases z:a'=a
  ·subst z;rw [h.me]at e;have f:dx=ai/\ah=d/\hd=c/\wl=bL/\qv=aO/\b=b':=by
    unfold jD at e;simp only [Option.some.injEq,HO.ins.injEq,List.cons.injEq,Prod.mk.injEq,true_and,and_true,V.ref.injEq,V.bl.injEq]at e;exact e
   obtain⟨rfl,rfl,rfl,rfl,rfl,rfl⟩:=f;exact⟨true,zj,.inr ⟨rfl,λq' j i nd=>by rw [zdK nd.qst h.qst];exact n⟩⟩
  ·exact⟨b',by rw [zn z];exact e,.inl rfl⟩
def z3x(C:Addr)(H:Hp)(u:V):Prop:=∃a dx ah hd wl qv,u= .ref a/\H a=some (.ins C dx (jD ah hd wl qv true))
theorem z3x.ev(e:Ev th C H H1)(h:z3x C H u):z3x C H1 u:=by
 obtain⟨a,dx,ah,hd,wl,qv,rfl,h⟩:=h;obtain⟨b,h1,o⟩:=e.n a dx ah hd wl qv true h;have:b=true:=by
  rcases o with o | o
  ·exact o
  ·exact o.1
 subst this;exact⟨a,dx,ah,hd,wl,qv,rfl,h1⟩
theorem z3x.nf{q:Qn}{u:V}(h:z3x C H u)(p:jS th C H q u):nf th q:=by
 obtain⟨a,dx,ah,hd,wl,qv,rfl,h⟩:=h;obtain⟨ws,⟨a',d,c,bL,ai,aO,b,xs,e,nd⟩,_⟩:=zU.mp p;cases e;have e:=nd.me;rw [h]at e;have:b=true:=by
  unfold jD at e;simp only [Option.some.injEq,HO.ins.injEq,List.cons.injEq,Prod.mk.injEq,true_and,and_true,V.ref.injEq,V.bl.injEq]at e;exact e.2.2.2.2.2.symm
 exact nd.set this
def PlJ(th:Str->List Str)(C:Addr)(H:Hp)(q:Qn)(v:V)(j:Nat):Prop:=∃ws,Node th C H q v ws/\jT th C H (kids q) ws/\∀u∈ws.take j,z3x C H u
theorem PlJ.of{v:V}(h:jS th C H q v):PlJ th C H q v 0:=by
 obtain⟨ws,h1,h2⟩:=zU.mp h;exact⟨ws,h1,h2,λu m=>by rw [w0u]at m;cases m⟩
theorem PlJ.pl{v:V}(h:PlJ th C H q v j):jS th C H q v:=by
 obtain⟨ws,h1,h2,_⟩:=h;exact zU.mpr ⟨ws,h1,h2⟩
theorem PlJ.ev{v:V}(e:Ev th C H H1)(h:PlJ th C H q v j):PlJ th C H1 q v j:=by
 obtain⟨ws,h1,h2,a⟩:=h;exact⟨ws,h1.ev e,h2.ev e,λu m=>(a u m).ev e⟩
def z5R(th:Str->List Str)(C:Addr)(H:Hp):List (Qn×Nat)->List V->Prop
 | [],vs=>vs= []
 | (p,i) :: c,vs=>∃a v us,vs= .ref a :: us/\H a=some (.tup [v,.int (i:Int)])/\PlJ th C H p v i/\z5R th C H c us
theorem z5R.ev(e:Ev th C H H1):∀{c:List (Qn×Nat)} {vs:List V},z5R th C H c vs->z5R th C H1 c vs
 | [],_,h=>h
 | (p,i) :: c,_,⟨a,v,us,b,h1,h2,d⟩=>⟨a,v,us,b,e.tup h1,h2.ev e,d.ev e⟩
theorem z5R.len:∀{c:List (Qn×Nat)} {vs:List V},z5R th C H c vs->vs.length=c.length
 | [],_,h=>by rw [show _= []from h];rfl
 | (p,i) :: c,_,⟨a,v,us,b,_,_,d⟩=>by rw [b,wJ,wJ,d.len]
theorem z5R.at:∀{c:List (Qn×Nat)} {vs:List V} {j:Nat} {x:V},z5R th C H c vs->vs[j]? =some x->∃p i a v,c[j]? =some (p,i)/\x= .ref a/\H a=some (.tup [v,.int (i:Int)])/\jS th C H p v
 | [],_,_,_,h,e=>by rw [show _= []from h]at e;cases e
 | (p,i) :: c,_,0,_,⟨a,v,us,b,h1,h2,d⟩,e=>by subst b;cases e;exact⟨p,i,a,v,rfl,rfl,h1,h2.pl⟩
 | (p,i) :: c,_,j + 1,_,⟨a,v,us,b,h1,h2,d⟩,e=>by
  subst b;obtain⟨p',f,a',v',z⟩:=d.at (j:=j) (by simpa using e);exact⟨p',f,a',v',by simpa using z.1,z.2⟩
theorem yk:zz (hid H d) H:=λb o e=>by
 by_cases z:b=d
 ·rw [z,yE]at e;cases e
 ·rw [jt z]at e;exact e
theorem z0v(h:zz H H'):zz (hid H d) (hid H' d):=λb o e=>by
 by_cases z:b=d
 ·rw [z,yE]at e;cases e
 ·rw [jt z]at e ⊢;exact h b o e
theorem z1Z{x:Addr}(n:x≠d):hid (upd H x o) d=upd (hid H d) x o:=by
 funext b
 by_cases z:b=d
 ·subst z;rw [yE,zn n.symm,yE]
 ·rw [jt z];by_cases y:b=x
  ·subst y;rw [zj,zj]
  ·rw [zn y,zn y,jt z]
theorem z1F:hid (upd H d o) d=hid H d:=by
 funext b
 by_cases z:b=d
 ·subst z;rw [yE,yE]
 ·rw [jt z,jt z,zn z]
theorem zcc{ys:List V}(hd:H d=some (.lst ys)):∀b xs,H b=some (.tup xs)->hid H d b=some (.tup xs):=λb xs e=>by
 rw [jt λz=>by rw [z,hd]at e;cases e];exact e
theorem z5Z{x:Addr}{fs gs:List (Str×V)}(h:H x=some (.ins D dx fs))(n:∀ah hd wl qv b,fs≠jD ah hd wl qv b):Ev th C H (upd H x (.ins D dx gs)):=by
 refine⟨λb o e _ m=> ?_,λa ai ah hd wl qv b e=>⟨b,?_,.inl rfl⟩⟩
 ·rw [zn λz=>by rw [z,h]at e;cases e;exact m _ _ _ rfl];exact e
 ·rw [zn λz=>by rw [z,h]at e;injection e with e;injection e with _ _ e;exact n _ _ _ _ _ e];exact e
noncomputable def trF(v:V)(al:Addr):List (Str×V):= [("place",v),("above",.ref al)]
theorem z47{v:V}:∀ah hd wl qv b,trF v al≠jD ah hd wl qv b:=λ_ _ _ _ _ h=>by
 unfold trF jD at h
 injection h with _ h
 injection h with _ h
 cases h
structure TC(K:W.Frag)(D:Addr):Prop where
 cls:Cls K D
 pl:NoAttr K D "place"
 ab:NoAttr K D "above"
theorem ze7{v:V}:yN "place" v []=([("place",v)]:List (Str×V)):=rfl
theorem zea{v:V}:yN "above" (.ref al) ([("place",v)]:List (Str×V))=trF v al:=by simp [yN,trF,show("place":Str)≠"above" by decide +kernel]
theorem zb2{v v':V}:yN "place" v' (trF v al)=trF v' al:=by simp [yN,trF]
def zbI{v:V}:(trF v al).lookup ("place":Str)=some v:=rfl
theorem zcg{v:V}:(trF v al).lookup ("above":Str)=some (V.ref al):=by rfl
def z5h{v:V}(b:TC K D)(h:H t=some (.ins D dx (trF v al)))(q:Q v):∃a' a ai fs v',V.ref t= .ref a'/\H a'=some (.ins a ai fs)/\Cls K a/\NoAttr K a "place"/\fs.lookup ("place":Str)=some v'/\Q v':=⟨t,D,dx,_,_,rfl,h,b.cls,b.pl,zbI,q⟩
def z8F{v:V}(b:TC K D)(h:H t=some (.ins D dx (trF v al)))(q:Q (.ref al)):∃a' a ai fs v',V.ref t= .ref a'/\H a'=some (.ins a ai fs)/\Cls K a/\NoAttr K a "above"/\fs.lookup ("above":Str)=some v'/\Q v':=⟨t,D,dx,_,_,rfl,h,b.cls,b.ab,zcg,q⟩
structure TrAt(th:Str->List Str)(C D:Addr)(H:Hp)(t al:Addr)(c:List (Qn×Nat))(q:Qn)(v:V)(dx:Addr)(vs:List V):Prop where
 me:H t=some (.ins D dx (trF v al))
 ab:H al=some (.lst vs.reverse)
 up:z5R th C (hid H al) c vs
 pl:jS th C (hid H al) q v
def zaG{th:Str->List Str}{C:Addr}{H:Hp}:∀{qs:List Qn} {ws:List V},z1p (λr u H=>jS th C H r u) H qs ws->jT th C H qs ws
 | [],_,h=>h
 | _ :: _,_,⟨v,ws,e,h1,h2⟩=>⟨v,ws,e,h1,zaG h2⟩
inductive spPlaceOver (C:Addr) (vs:List V) (H:Hp) (Q:VK) (E:XK):Prop
 | mk:∀th tr q v tp wl ws,vs= [.ref tp,v,.ref wl]->TabOk th tr->jE th tr H tp->QAt H q v->wfQ th q->H wl=some (.lst ws)->jT th C H (kids q) ws->(∀(x:Addr) (H':Hp),zz H H'->jS th C H' q (.ref x)->Q (.ref x) H')->spPlaceOver C vs H Q E
theorem z2f:FnScope ["tables","question","within","heads"] ["tables","question","within"] (zm z0i):=by walk_at "s"
theorem z4S(F:Fun K "place_over" "place_over" z0i f fd)(T:Txt K mg)(Z:PC K C)(d:KnC P w K mg base 1 "Place" ["self","ahead","heads","within"] (spPInit K C) C)(c:Kn P w K mg base 3 "heads_at" ["tables","question","within"] (spHeadsAt K)):FnOk P w K mg base CX0 4 f fd ["tables","question","within"] (spPlaceOver C):=by
 refine F.okB z2f (λvs H Q E h=> ?_) (λvs H Q E h=> ?_)
 ·obtain⟨th,tr,q,v,tp,wl,ws,rfl,_⟩:=h
  rfl
 obtain⟨th,tr,q,v,tp,wl,ws,rfl,TT,R,hq,wf,t,B,fin⟩:=h;obtain⟨p,xs,kv,rfl,hp,I,xF⟩:=z5N hq;have hl:=B.len;have aF:=xF.len;have lk:=z2N q;have la:=z4m I;intro ac A outer sh hr;refine⟨_,(ze (seT 3 z2f (zV c hr.m (zf v0 (zf v1 (z1g (yz rfl (CompSc.of (sx:=zm z0i) (NX:= ["tables","question","within","heads"]) (fr:= []) (ix:= []) rfl rfl (by decide +kernel)) (jb v2) (λ_ _ _ _ _ _=>jM) (λ_ _ _ _ _ _=>(z3L (K:=K) rfl v0 rfl))) zd)))))
  (zh (zt (yr d hr.m rfl (zl (j8 z8o v1 jx (jn (zr z34 (leN T.len (zf v1 zd)) (leN T.len (zf v2 zd))))) (zf v3 (zf v2 zd))))))),?_⟩
 generalize hK0:K=K1;generalize hK1:C=C1
 revert C1
 revert K1
 refine z0a (by walk_at "cl") ?_;refine !(!(!⟨wl,rfl,⟨_,SqL.of t⟩,?_⟩));refine jF (xs:=ws) (λi ys H'=>H'=H/\ys.length=i/\z1p (zdX th) H ((kids q).take i) ys) ⟨rfl,rfl,by rw [w0u];rfl⟩ ?_ ?_ ?_
 ·rintro i ys H' hi ⟨rfl,o,_⟩;exact⟨SqL.of t,zG (by lia)⟩
 ·rintro i y ys H' hi ⟨rfl,o,hr⟩;have N:i < (kids q).length:=by rw [<-hl];exact(we.mp hi).1
  obtain⟨v,G,pv⟩:=B.at (wa N);rw [hi]at G;cases G;obtain⟨us,⟨a,cQ,J,bL,ai,qv,b,cZ,rfl,nd⟩,_⟩:=zU.mp pv;refine !(z0D Z nd.me ⟨rfl,by rw [wb,o];rfl,?_⟩);rw [q9,wa N];exact hr.app ⟨.ref J,[],rfl,⟨J,rfl,nd.hds⟩,rfl⟩
 ·rintro ys H' ⟨rfl,o,hr⟩ np U;rw [hl,qB]at hr;refine zc (upd _ np _) rfl U λH1 n x1=> ?_
  refine⟨th,tr,q,.ref p,tp,np,ys,rfl,TT,R.same n,hq.same n,wf,x1,hr.imp λr u ⟨hp,e,z⟩=>⟨hp,e,n _ _ z⟩,λaa H2 n2 M=> ?_⟩;have s2:=n.trans n2;have l:=s2 _ _ hp;have s:=s2 _ _ t;refine !(!⟨p,!⟨.inr (SqT.of l),!⟨wl,!⟨.inl (SqL.of s),ex2 rfl rfl (!?_)⟩⟩⟩⟩);have e:HT.sIx (xs ++ kv).length (xs ++ kv).length (some (((xs ++ kv).length:Int) - (ws.length:Int)))=xs.length:=by
   show(if((xs ++ kv).length:Int) - (ws.length:Int) < 0 then _ else min (((xs ++ kv).length:Int) - (ws.length:Int)).toNat (xs ++ kv).length)=_
   rw [wb,wM (by lia)]
   lia
  have L:=B.ev (Ev.of (Nt.of s2));have D:kN H2 q xs:=I.mono λb xs z=>s2 _ _ z
  by_cases hz:kv= []
  ·subst hz;refine .inr ⟨p,!⟨SqT.of l,⟨rfl,by rw [e,Qb]⟩,?_⟩⟩;rw [Qb]at l;refine !(!?_);exact jI (q:=q) (xs:=xs) l D M s L λx ai aO H' s' _ _ pl=>fin x H' (s2.trans s') pl
  ·refine .inl ⟨p,!⟨SqT.of l,λz=>hz ?_,λS O=> ?_⟩⟩
   ·have:=z.2;rw [e,wb]at this;exact QA.mp (by lia)
   ·have X:z0A (xs ++ kv) none (some (((xs ++ kv).length:Int) - (ws.length:Int)))=xs:=by
     unfold z0A;rw [e]
     show((xs ++ kv).drop 0).take (xs.length - 0)=xs
     rw [w13,Nat.sub_zero,List.take_left']
     rfl
    rw [X];refine zc (upd _ S _) rfl O λH3 j x3=> ?_
    have Y:=s2.trans j;refine !(!?_);exact jI (q:=q) (xs:=xs) x3 (D.mono λb xs z=>j _ _ z) (j _ _ M) (j _ _ s) (L.ev (Ev.of (Nt.of j))) λx ai aO H' s' _ _ pl=>fin x H' (Y.trans s') pl
noncomputable def za1:Pos:=match ym kY with
 | .Assign _ (.Call _ [_,.Lambda _ _ _ p] _ _) _ :: _=>p
 | _=>⟨0,0,0,0⟩
noncomputable abbrev z9J:Str:=Str.ofString "Turner.__init__" ++ ".<locals>." ++ "<lambda>"
inductive spTInit (C D T4:Addr) (vs:List V) (H:Hp) (Q:VK) (E:XK):Prop
 | mk:∀th tr q v x dx tp,vs= [.ref x,.ref tp,v]->H x=some (.ins D dx [])->TabOk th tr->jE th tr H tp->QAt H q v->wfQ th q->(post q).length<=8000000->z1z H T4 za1 z9J->(∀(v':V) (al:Addr) (H':Hp),(∀b o,b≠x->H b=some o->(∀ps,o≠ .tbl ps)->hid H' al b=some o)->TrAt th C D H' x al [] q v' dx []->Q .non H')->spTInit C D T4 vs H Q E
theorem z4t:FnScope ["self","tables","question"] ["self","tables","question"] (zm kY):=by walk_at "s"
theorem z43{c:Addr}(F:Fun K "__init__" "Turner.__init__" kY f fd)(T:Txt K mg)(t:TC K D)(hc:fd.code= .ref c)(CH:PySem.W.CodeHd base c T4)(B:base.BuiltinsAt mg T4)(i:KnS P w K mg base CX0 9 "built_up" ["question","work"] (z8I P w K mg base 8))(d:Kn P w K mg base 4 "place_over" ["tables","question","within"] (spPlaceOver C)):FnOk P w K mg base CX0 10 f fd ["self","tables","question"] (spTInit C D T4):=by
 refine F.okC z4t (λvs H Q E h=> ?_) (λA outer s H vs Q E hr h=> ?_)
 ·obtain⟨th,tr,q,v,x,dx,tp,rfl,_⟩:=h
  rfl
 obtain⟨th,tr,q,v,x,dx,tp,rfl,hx,TT,U,hq,wf,hsz,N,fin⟩:=h;refine⟨_,(ze (z0x (pv 0) (z7u (k:=4) (T:=T4) (c:=c) (j:=1) (a:="part") (b:="within") (y:="tables") i z3t hr rfl (pv 2) hc CH B ⟨rfl,rfl,rfl,rfl,rfl,rfl,by decide +kernel,by decide +kernel,by decide +kernel⟩ (QV rfl) rfl
  (λ_ _ _ _ _ _ _ _ hl=>z6H d hl rfl (zf (pv 2) (zf (pv 0) (zf (pv 1) zd))))) rfl) (zh (z0x (pv 0) (zx zd) rfl))),?_⟩
 refine !⟨N,.ref tp,rfl,λlf c' H2 s2 k2 ie W=> ?_⟩;have I:=ze9 N k2;refine⟨v,q,lf,_,λ_=>True,λr u H=>jS th C H r u,rfl,hq.nt I,hsz,W.mono (by decide),trivial,λ_ _ _ _=>trivial,λr u H1 H2 n z=>z.ev (Ev.of n),λr Y L wl ws H3 Q1 S L3 mD R rs k=> ?_,λv' H' X L' z=> ?_⟩
 ·exact⟨L,.ref wl,rfl,!(!(!⟨th,tr,r,L,tp,wl,ws,rfl,TT,U.nt (I.trans S),mD,zbO wf r Y,R,zaG rs,λx H4 Z p4=>k _ _ (Nt.of Z) trivial p4⟩))⟩
 ·have G:=I.trans X;have J:H' x=some (.ins D dx []):=G _ _ hx λ_ z=>by cases z
  refine !⟨x,D,dx,!⟨J,t.cls,t.pl,by show 0 < 1000;decide,?_⟩⟩;rw [ze7];have e3:Ev th C H' (upd H' x (.ins D dx [("place",v')])):=z5Z J λ_ _ _ _ _ z=>by cases z
  refine⟨(zq rfl),λal l=> ?_⟩;have p:al≠x:=λz=>by rw [z,zj]at l;cases l
  have pL:H' al=none:=by rw [zn p]at l;exact l
  refine !⟨x,D,dx,!⟨(by rw [zn p.symm,zj]),t.cls,t.ab,by show 1 < 1000;decide,?_⟩⟩;rw [zea];refine fin v' al _ (λb o M e n=> ?_) ⟨zj,by rw [zn p,zj];rfl,rfl,?_⟩
  ·have O:b≠al:=λz=>by rw [z]at e;have:=G _ _ e n;rw [pL]at this;cases this
   rw [jt O,zn M,zn O,zn M];exact G _ _ e n
  ·rw [z1Z p.symm,ku l];exact(z.ev e3).ev (z5Z zj λ_ _ _ _ _ z=>by cases z)
theorem z8d{n:Nat}(h:i < n):ixN n (i:Int)=some i:=by
 unfold ixN;rw [wU (by lia),wU (by lia)]
 rfl
inductive spGoW (C D:Addr) (vs:List V) (H:Hp) (Q:VK) (E:XK):Prop
 | mk:∀t dx al a bB ah hd wl us ws qv w b (i:Nat),vs= [.ref t,.int (i:Int)]->H t=some (.ins D dx (trF (.ref a) al))->H al=some (.lst us)->us.length < sizeLine->H a=some (.ins C bB (jD ah hd wl qv b))->H wl=some (.lst ws)->wl≠al->ws[i]? =some w->(∀p,H p=none->Q .non (upd (upd (upd H p (.tup [.ref a,.int (i:Int)])) al (.lst (us ++ [.ref p]))) t (.ins D dx (trF w al))))->spGoW C D vs H Q E
theorem z2b:FnScope ["self","spot"] ["self","spot"] (zm yU):=by walk_at "s"
theorem z2a(F:Fun K "go_within" "Turner.go_within" yU f fd)(T:Txt K mg)(x:PC K C)(d:TC K D):FnOk P w K mg base CX0 1 f fd ["self","spot"] (spGoW C D):=by
 refine F.okB z2b (λvs H Q E h=> ?_) (λvs H Q E h=> ?_)
 ·obtain⟨t,dx,al,a,bB,ah,hd,wl,us,ws,qv,q,b,i,rfl,_⟩:=h
  rfl
 obtain⟨t,dx,al,a,bB,ah,hd,wl,us,ws,qv,q,b,i,rfl,ht,c,s,ha,j,n,hi,fin⟩:=h;intro ac A outer y hr;refine⟨_,(ze (jg (apP (zE v0 rfl) (zH (zC (zO (zE v0 rfl) (zf v1 zd))) zd)))
  (zh (z0x v0 (ixL (zE (zE v0 rfl) rfl) v1) rfl))),?_⟩
 generalize hK0:K=K1;generalize hK1:C=C1;generalize hK2:D=D1
 revert D1
 revert C1
 revert K1
 refine z5G (by walk_at "cl") ?_;refine !(z8F d ht ⟨.inl ⟨rfl,_,SqL.of c⟩,?_⟩);refine !(z5h d ht (!⟨(zq rfl),λp hp=> ?_⟩));have ne:∀{b:Addr} {o:HO},H b=some o->b≠p:=λ{b o} e z=>by rw [z,hp]at e;cases e
 have u:t≠al:=λz=>by rw [z,c]at ht;cases ht
 have r:a≠al:=λz=>by rw [z,c]at ha;cases ha
 refine⟨al,ex2 rfl rfl ⟨(by rw [zn (ne c)];exact c),s,?_⟩⟩;have l:upd (upd H p (.tup [.ref a,.int (i:Int)])) al (.lst (us ++ [.ref p])) t=some (.ins D dx (trF (.ref a) al)):=by rw [zn u,zn (ne ht)];exact ht
 refine !(z5h d l (k5 x (by rw [zn r,zn (ne ha)];exact ha) (!(zw (by rw [zn n,zn (ne j)];exact j) (zX hi) ?_))));refine !⟨t,D,dx,!⟨l,d.cls,d.pl,by show 2 < 1000;decide,?_⟩⟩;rw [zb2];exact fin p hp
theorem zaa{k:Qn}(h:kN H p xs):kN H (zN p i k) xs:=by
 cases p with
 | pair q r=>show kN H (if i=0 then _ else _) xs;split <;> exact h
 | join a b q r=>show kN H (if i=0 then _ else _) xs;split <;> exact h
 | both q r=>show kN H (if i=0 then _ else _) xs;split <;> exact h
 | _=>exact h
theorem z6h{hd:Addr}(ha:H ah=some (.tup xs))(c:kN H q xs)(s:H hd=some (.lst ((za th q).map V.str)))(t:H wl=some (.lst ws))(hp:jT th C H (kids q) ws)
  (fin:∀(x dx:Addr) (qv:V) (H':Hp),zz H H'->H x=none->NodeAt th C H' q x ws ah hd wl dx qv false xs->R x .non H'):
  ∀x dx,H x=none->H dx=none->dx≠x->spPInit K C (.ref x :: ([.ref ah,.ref hd,.ref wl] ++ [])) (upd (upd H dx (.own x)) x (.ins C dx [])) (R x) E:=by
 intro x dx h u j;obtain⟨D,q',f,ai,l,i,bL,r,A,e,h1,h2,B,p,a,w⟩:=jI (K:=K) (E:=E) (Q:=λv H'=>∀z,v= .ref z->R z .non H') ha c s t hp (λz ai aO H' s' hz nd _ y o=>by cases o;exact fin z ai aO H' s' hz nd) x dx h u j;exact⟨D,q',f,ai,l,i,bL,r,A,e,h1,h2,B,p,a,λqv H' b n d=>(w qv H' b n d).2 x rfl⟩
def NodeAt.keep{a hd:Addr}(h:NodeAt th C H q a ws ah hd wl dx qv b xs)(k:∀c,c=a\/c=hd\/c=wl->H' c=H c)(t:∀b xs,H b=some (.tup xs)->H' b=some (.tup xs)):NodeAt th C H' q a ws ah hd wl dx qv b xs:=
 ⟨(k _ (.inl rfl)).trans h.me,t _ _ h.ahd,h.ahx.mono t,(k _ (.inr (.inl rfl))).trans h.hds,(k _ (.inr (.inr rfl))).trans h.wit,h.qst.mono t,h.set⟩
inductive spGoB (C D:Addr) (vs:List V) (H:Hp) (Q:VK) (E:XK):Prop
 | mk:∀th q t dx al p a bB ah hd wl us (ws:List V) xs qv v b (i:Nat),vs= [.ref t]->H t=some (.ins D dx (trF v al))->H al=some (.lst (us ++ [.ref p]))->H p=some (.tup [.ref a,.int (i:Int)])->H a=some (.ins C bB (jD ah hd wl qv b))->i < ws.length->wl≠al->hd≠al->H wl=some (.lst ws)->H ah=some (.tup xs)->kN H q xs->H hd=some (.lst ((za th q).map V.str))->jT th C (hid H al) (kids q) (ws.set i v)->(∀(x:Addr) (H':Hp),(∀b o,b≠t->b≠al->H b=some o->H' b=some o)->H x=none->H' t=some (.ins D dx (trF (.ref x) al))->H' al=some (.lst us)->(∃bL ai aO,NodeAt th C (hid H' al) q x (ws.set i v) ah hd bL ai aO false xs)->Q .non H')->spGoB C D vs H Q E
theorem kA:FnScope ["self","over","within"] ["self"] (zm kG):=by walk_at "s"
theorem z2P(F:Fun K "go_back" "Turner.go_back" kG f fd)(T:Txt K mg)(N:PC K C)(I:TC K D)(r:KnC P w K mg base 1 "Place" ["self","ahead","heads","within"] (spPInit K C) C):FnOk P w K mg base CX0 3 f fd ["self"] (spGoB C D):=by
 refine F.okB kA (λvs H Q E h=> ?_) (λvs H Q E h=> ?_)
 ·obtain⟨th,q,t,dx,al,p,a,bB,ah,hd,wl,us,ws,xs,qv,v,b,i,rfl,_⟩:=h
  rfl
 obtain⟨th,q,t,dx,al,p,a,bB,ah,hd,wl,us,ws,xs,qv,v,b,i,rfl,ht,s,hp,ha,hi,pM,Y,aP,M,c9,J,l7,fin⟩:=h;have y:t≠al:=λz=>by rw [z,s]at ht;cases ht
 have G:p≠al:=λz=>by rw [z,s]at hp;cases hp
 have L:a≠al:=λz=>by rw [z,s]at ha;cases ha
 have Dd:ah≠al:=λz=>by rw [z,s]at M;cases M
 intro ac A outer sh hr;refine⟨_,(ze (seT 1 kA (z3i qj QR QS z3e (zE v0 rfl)))
  (ze (seT 2 kA (je jY rfl T.list qF (zO (zE (ixT v1 zb) rfl) zd)))
  (ze (z7P (zE v0 rfl) (z7h v2 (ixT v1 zb) set_list))
  (zh (z0x v0 (yr r hr.m rfl (zO (zE (ixT v1 zb) rfl) (zO (zE (ixT v1 zb) rfl) (zf v2 zd)))) rfl))))),?_⟩
 generalize hK0:K=K1;generalize hK1:C=C1;generalize hK2:D=D1
 revert D1
 revert C1
 revert K1
 refine z5G (by walk_at "cl") ?_;refine !(z8F I ht ⟨.inl ⟨rfl,_,SqL.of s⟩,al,_,.ref p,rfl,rfl,s,z1V _ _,?_⟩);rw [w00];have d:∀{b:Addr} {o:HO},b≠al->H b=some o->upd H al (.lst us) b=some o:=λ{b o} n e=>by rw [zn n];exact e
 have R:upd H al (.lst us) al=some (.lst us):=zj;have lj:hid (upd H al (.lst us)) al=hid H al:=z1F;generalize upd H al (.lst us)=H1 at d R lj ⊢;refine !(zg (d G hp) zD (k5 N (d L ha) ⟨wl,!⟨.inl (SqL.of (d pM aP)),λl cj=> ?_⟩⟩));refine zc (upd _ l _) rfl cj λH2 O x2=> ?_
 refine !(z5h I (O _ _ (d y ht)) (!(!(zg (O _ _ (d G hp)) jc ⟨l,_,_,i,rfl,rfl,x2,?_,?_⟩))))
 ·exact z8d hi
 have u:H1 l=none:=cj;have U:∀b o,H1 b=some o->upd H2 l (.lst (ws.set i v)) b=some o:=λb o e=>by rw [zn λz=>by rw [z,u]at e;cases e];exact O _ _ e
 have x3:upd H2 l (.lst (ws.set i v)) l=some (.lst (ws.set i v)):=zj;generalize upd H2 l (.lst (ws.set i v))=H3 at U x3 ⊢;have j:zz H1 H3:=U;have xH:zz (hid H al) (hid H3 al):=by rw [<-lj];exact z0v j
 refine !(zg (j _ _ (d G hp)) zD (yI N (j _ _ (d L ha)) ?_));refine !(zg (j _ _ (d G hp)) zD (z0D N (j _ _ (d L ha)) (!?_)));have Z:∀b xs,H b=some (.tup xs)->H3 b=some (.tup xs):=λb xs e=>j _ _ (d (λz=>by rw [z,s]at e;cases e) e)
 have fx:∀{b:Addr},H3 b=none->H b=none\/b=al:=λ{b} e=>by
  by_cases z:b=al
  ·exact .inr z
  ·refine .inl ?_;cases e2:H b with
   | none=>rfl
   | some o=>have:=j _ _ (d z e2);rw [e]at this;cases this
 refine z6h (th:=th) (q:=q) (xs:=xs) (Z _ _ M) (c9.mono Z) (j _ _ (d Y J)) x3 ((l7.ev (Ev.of (Nt.of xH))).ev (Ev.of (Nt.of yk))) λx ai aO H4 S B nd=>⟨rfl,?_⟩
 have tR:=j _ _ R;have tS:x≠al:=λz=>by rw [z,tR]at B;cases B
 have mo:=j _ _ (d y ht);have xI:x≠t:=λz=>by rw [z,mo]at B;cases B
 have X:=S _ _ tR;have tT:=S _ _ mo;have xJ:l≠al:=λz=>by rw [z,R]at u;cases u
 have xK:l≠t:=λz=>by rw [z,d y ht]at u;cases u
 have xL:hd≠t:=λz=>by rw [z,ht]at J;cases J
 refine !⟨t,D,dx,!⟨tT,I.cls,I.pl,by show 2 < 1000;decide,?_⟩⟩;rw [zb2];refine fin x _ (λb o h1 h2 e=> ?_) ?_ zj (by rw [zn y.symm];exact X) ⟨l,ai,aO,?_⟩
 ·rw [zn h1];exact S _ _ (j _ _ (d h2 e))
 ·rcases fx B with z | z
  ·exact z
  ·exact absurd z tS
 ·rw [z1Z y];refine nd.keep (λc hc=> ?_) λb ys e=> ?_
  ·rcases hc with rfl | rfl | rfl
   ·rw [zn xI,jt tS]
   ·rw [zn xL,jt Y]
   ·rw [zn xK,jt xJ]
  ·rw [zn (λz=>by rw [z,tT]at e;cases e),jt (λz=>by rw [z,X]at e;cases e)];exact e
structure Step(th:Str->List Str)(C:Addr)(H H':Hp)(al:Addr):Prop where
 ev:Ev th C (hid H al) (hid H' al)
 tb:∀b ps,H b=some (.tbl ps)->H' b=some (.tbl ps)
def Step.refl:Step th C H H al:=⟨Ev.refl _,λ_ _ e=>e⟩
theorem Step.trans(a:Step th C H H1 al)(b:Step th C H1 H2 al):Step th C H H2 al:=⟨a.ev.trans b.ev,λx ps e=>b.tb x ps (a.tb x ps e)⟩
theorem Step.same(a:zz H H1):Step th C H H1 al:=⟨Ev.of (Nt.of (z0v a)),λ_ _ e=>a _ _ e⟩
theorem TrAt.same{c:List (Qn×Nat)}{v:V}(h:TrAt th C D H t al c q v dx vs)(s:zz H H1):TrAt th C D H1 t al c q v dx vs:=
 ⟨s _ _ h.me,s _ _ h.ab,h.up.ev (Ev.of (Nt.of (z0v s))),h.pl.ev (Ev.of (Nt.of (z0v s)))⟩
theorem TrAt.ne{c:List (Qn×Nat)}{v:V}(h:TrAt th C D H t al c q v dx vs):t≠al:=λz=>by
 have:=h.me;rw [z,h.ab]at this;cases this
theorem take_set{ws:List α}{v u:α}(m:u∈(ws.set i v).take (i + 1)):u=v\/u∈ws.take i:=by
 rw [q9]at m;rcases wx.mp m with m | m
 ·rw [List.take_set_of_le (ww i)]at m;exact .inr m
 ·by_cases h:i < ws.length
  ·rw [w0L h]at m;exact .inl (by simpa using m)
  ·rw [List.getElem?_eq_none (by rw [List.length_set];lia)]at m;cases m
theorem z4h{b:Addr}(h:hid H al b=some o):b≠al:=λz=>by rw [z,yE]at h;cases h
theorem zbW{v:V}(h:H t=some (.ins D dx (trF v al)))(k:∀b o,b≠t->b≠al->H b=some o->H' b=some o)(ha:H al=some (.lst us)):Step th C H H' al:=by
 have kk:∀b o,b≠t->hid H al b=some o->hid H' al b=some o:=λb o n e=>by
  have nb:=z4h e;rw [jt nb];exact k b o n nb (yk _ _ e)
 refine⟨⟨λb o e _ m=>kk b o (λz=> ?_) e,λa ai ah hd wl qv b e=>⟨b,kk a _ (λz=> ?_) e,.inl rfl⟩⟩,λb ps e=>k b _ (λz=> ?_) (λz=> ?_) e⟩
 ·have:=yk _ _ e;rw [z,h]at this;cases this;exact m _ _ _ rfl
 ·have:=yk _ _ e;rw [z,h]at this
  injection this with this
  injection this with _ _ this
  exact z47 _ _ _ _ _ this
 ·rw [z,h]at e;cases e
 ·rw [z,ha]at e;cases e
theorem z8x{th:Str->List Str}{C:Addr}{H:Hp}:∀{qs:List Qn} {ws:List V},jT th C H qs ws->(∀u∈ws,z3x C H u)->∀k∈qs,nf th k
 | [],_,_,_,_,m=>by cases m
 | q :: qs,_,⟨v,ws,e,h1,h2⟩,hs,k,m=>by
  subst e;rcases wE.mp m with rfl | m
  ·exact(hs v (qE ..)).nf h1
  ·exact z8x h2 (λu m=>hs u (wY _ m)) k m
def UnV(C:Addr)(H:Hp)(u:V):Prop:=∃a dx ah hd wl qv,u= .ref a/\H a=some (.ins C dx (jD ah hd wl qv false))
theorem UnV.not(h:UnV C H u):¬z3x C H u:=by
 rintro⟨a,dx,ah,hd,wl,qv,rfl,e⟩;obtain⟨a',ai,d,c,bL,aO,z,b⟩:=h;cases z;rw [e]at b;unfold jD at b;simp at b
inductive spTurn (C D:Addr) (vs:List V) (H:Hp) (Q:VK) (E:XK):Prop
 | mk:∀th tr t al dx c q v us,vs= [.ref t]->TabOk th tr->TrAt th C D H t al c q v dx us->z02 th c q->wfQ th (plug c q)->wt (plug c q)<=8000000->(∀(r:Bool) (H':Hp) (c':List (Qn×Nat)) (q':Qn) (v':V) (lB:List V),Step th C H H' al->TrAt th C D H' t al c' q' v' dx lB->z02 th c' q'->((r=true/\One th (plug c q) (plug c' q'))\/(r=false/\plug c' q'=plug c q/\nf th (plug c' q')))->Q (.bl r) H')->spTurn C D vs H Q E
structure TrIn(th:Str->List Str)(C D:Addr)(H H1:Hp)(w:Qn)(t al dx:Addr)(c:List (Qn×Nat))(q:Qn)(us ws xs:List V)(a ah hd wl bB:Addr)(qv:V)(b:Bool)(j:Nat):Prop where
 tr:TrAt th C D H1 t al c q (.ref a) dx us
 ok:z02 th c q
 same:plug c q=w
 step:Step th C H H1 al
 nd:NodeAt th C (hid H1 al) q a ws ah hd wl bB qv b xs
 kd:jT th C (hid H1 al) (kids q) ws
 st:∀u∈ws.take j,z3x C (hid H1 al) u
theorem ky:FnScope ["self","place","unsettled","other"] ["self"] (zm yL):=by walk_at "s"
theorem z4o(F:Fun K "turn" "Turner.turn" yL f fd)(T:Txt K mg)(M:TxtM K mg)(PK:PC K C)(TK:TC K D)(B:KnM P w K mg base 3 "go_back" ["self"] (spGoB C D) D)(n:KnM P w K mg base 1 "go_within" ["self","spot"] (spGoW C D) D)(S:Kn P w K mg base 9 "turned" ["place"] (spTurned C)):FnOk P w K mg base CX0 10 f fd ["self"] (spTurn C D):=by
 refine F.okB ky (λvs H Q E h=> ?_) (λvs H Q E h=> ?_)
 ·obtain⟨th,tr,t,al,dx,c,q,v,us,rfl,_⟩:=h
  rfl
 obtain⟨th,tr,t,al,dx,c,q,v,us,rfl,TT,ef,iU,xM,xN,fin⟩:=h;intro ac A outer sh hr;refine⟨_,(ze (z6r (z1Q (z2H (zE v0 rfl) (λ_=>rfl)) (yF (jq (zE (zE v0 rfl) rfl))))
   (ze (seT 1 ky (zE v0 rfl))
   (ze (z6S (j:=2) rfl ky.nd rfl (QV rfl) (CompScG.of (sx:=zm yL) (NX:= ["self","place","unsettled","other"]) (xs:= ["spot","inner"]) (fr:= []) (ix:= []) rfl rfl (by decide +kernel)) (zbV rfl M.enumerate (zO (zE v1 rfl) zd)) (zd7 rfl (CompScG.of (sx:=zm yL) (NX:= ["self","place","unsettled","other"]) (xs:= ["spot","inner"]) (fr:= []) (ix:= []) rfl rfl (by decide +kernel)) (by rfl) (by rfl)) (λ_ _ _ _ _ _=>(z0F (yF (jq (z3L (K:=K) rfl v1 rfl))))) (λ_ _ _ _ _ _=>v0))
   (zh (zF (jq (zE v1 rfl))
    (zh (jg (z97 B hr.m v0)))
    (zh (zF (z2H v2 (λ_=>rfl))
     (zh (jg (zaA n hr.m v0 (zl (ixL v2 zb) zd))))
     (ze (seT 3 ky (zar S hr.m rfl (zf v1 zd)))
     (ze (zF (cmT z8K v3 z2l)
      (ze (z0x v0 v3 rfl)
      (zh (zt yt)))
      zu)
     (zh (z0x v1 yt rfl)))))))))))
  (zh (zt yt))),?_⟩
 generalize hK0:K=K1;generalize hK1:C=C1;generalize hK2:D=D1
 revert D1
 revert C1
 revert K1
 refine z5G (by walk_at "cl") ?_;obtain⟨tU,⟨a0,tV,tW,tX,tY,pQ,b0,tZ,rfl,mJ⟩,u4⟩:=zU.mp ef.pl;refine z0H (λm σ H1=>∃G s O ws xs a ah hd wl bB qv b j o1 o2 o3,σ= [some (.ref t),o1,o2,o3]/\TrIn th C D H H1 (plug c q) t al dx G s O ws xs a ah hd wl bB qv b j/\m=(if b=true then 1 else 2 + rest s j) + budget G)
  _ ⟨c,q,us,tU,tZ,a0,tV,tW,tX,tY,pQ,b0,0,none,none,none,rfl,⟨ef,iU,rfl,.refl,mJ,u4,λu m=>by rw [w0u]at m;cases m⟩,rfl⟩ ?_
 rintro m σ H1 ⟨G,s,O,ws,xs,a,ah,hd,wl,bB,qv,b,j,o1,o2,o3,rfl,R,rfl⟩;have me:=yk _ _ R.nd.me;refine !(z8F TK R.tr.me ⟨_,.inl ⟨_,SqL.of R.tr.ab,rfl⟩,?_⟩);refine⟨not b,(!(z5h TK R.tr.me (zac PK me (!⟨rfl,rfl⟩)))),?_⟩;by_cases hx:O= []/\b=true
 ·obtain⟨rfl,rfl⟩:=hx;refine ifF (by rfl) ?_;have ec:G= []:=QA.mp (by rw [<-R.tr.up.len];rfl);subst ec;exact fin false H1 [] s _ _ R.step R.tr R.ok (.inr ⟨rfl,R.same,R.nd.set rfl⟩)
 refine ifT ?_ ?_
 ·cases b with
  | false=>simp
  | true=>
   cases O with
   | nil=>exact absurd ⟨rfl,rfl⟩ hx
   | cons x r=>simp
 refine⟨_,λσ' H' z=>z,?_⟩;refine !(z5h TK R.tr.me ?_);have wit:=yk _ _ R.nd.wit;have u5:=R.kd.len;have lk:=z2N s;refine !(k5 PK me ⟨wl,rfl,⟨_,SqL.of wit⟩,?_⟩);refine z9l (ys:=ws) (λi zs H'=>zz H1 H'/\zs.length<=i/\((zs= []/\∀u∈ws.take i,z3x C (hid H1 al) u)\/∃(k:Nat) (w:V) (r:List V),zs= .int (k:Int) :: r/\ws[k]? =some w/\UnV C (hid H1 al) w/\∀u∈ws.take k,z3x C (hid H1 al) u))
  ⟨zz.refl _,ww _,.inl ⟨rfl,λu m=>by rw [w0u]at m;cases m⟩⟩ ?_ ?_ ?_
 ·rintro i zs H' hi ⟨s',hz,_⟩;exact⟨SqL.of (s' _ _ wit),zG (by lia)⟩
 ·rintro i y zs H' p hi ⟨s',hz,o⟩ hp;have s2:=s'.trans (zJ hp (.tup [.int (i:Int),y]));have cq:i < (kids s).length:=by rw [<-u5];exact(we.mp hi).1
  obtain⟨v,hv,pv⟩:=R.kd.at (wa cq);rw [hi]at hv;cases hv;obtain⟨eP,⟨a2,cs,X,cN,ce,bP,b2,cH,rfl,J⟩,_⟩:=zU.mp pv;refine !(zac PK (s2 _ _ (yk _ _ J.me)) (!?_));cases b2 with
  | false=>
   refine ifT rfl (!⟨s2,by rw [wb];simp;lia,?_⟩);rcases o with⟨rfl,all⟩ | ⟨k,w,r,rfl,h1,h2,h3⟩
   ·exact .inr ⟨i,_,[],rfl,hi,⟨a2,ce,cs,X,cN,bP,rfl,J.me⟩,all⟩
   ·exact .inr ⟨k,w,r ++ [.int (i:Int)],rfl,h1,h2,h3⟩
  | true=>
   refine ifF rfl ⟨s2,by lia,?_⟩;rcases o with⟨rfl,all⟩ | ⟨k,w,r,rfl,h1,h2,h3⟩
   ·refine .inl ⟨rfl,λu m=> ?_⟩;rw [q9,hi]at m;rcases wx.mp m with m | m
    ·exact all u m
    ·rw [show u= .ref a2 by simpa using m];exact⟨a2,ce,cs,X,cN,bP,rfl,J.me⟩
   ·exact .inr ⟨k,w,r,rfl,h1,h2,h3⟩
 ·rintro zs H' ⟨s',hz,o⟩ np aA;refine zc (upd _ np _) rfl aA λU n3 x3=> ?_
  have s3:=s'.trans n3;have l:=R.tr.same s3;have mK:=s3 _ _ me;have Z:Step th C H1 U al:=Step.same s3;refine !(zac PK mK (!?_));cases b with
  | true=>
   refine ifT rfl ?_;obtain⟨p,i,c2,rfl⟩:∃p i c2,G=(p,i) :: c2:=by
    cases G with
    | nil=>exact absurd ⟨QA.mp R.tr.up.len,rfl⟩ hx
    | cons x c2=>exact⟨x.1,x.2,c2,rfl⟩
   obtain⟨pa,pv,eP,rfl,fj,⟨pR,⟨a2,cs,X,cN,ce,bP,b2,cH,rfl,J⟩,lC,aX⟩,xO⟩:=l.up;have gj:=l.ab;rw [QM]at gj;have lp:=lC.len;refine !⟨t,dx,!⟨l.me,rfl,th,zN p i s,t,dx,al,pa,a2,ce,cs,X,cN,eP.reverse,pR,cH,bP,.ref a,b2,i,rfl,l.me,gj,yk _ _ fj,yk _ _ J.me,(by rw [lp];exact R.ok.1),z4h J.wit,z4h J.hds,yk _ _ J.wit,yk _ _ J.ahd,zaa (J.ahx.mono λb xs z=>yk _ _ z),(by rw [R.ok.2.1];exact yk _ _ J.hds),(by rw [z1P R.ok.1];exact lC.set l.pl),?_⟩⟩;rintro x H4 k4 fx t4 mI ⟨bL,ai,aO,mq⟩;have fk:Step th C U H4 al:=zbW l.me k4 gj;have u6:jT th C (hid H4 al) (kids (zN p i s)) (pR.set i (.ref a)):=by
    rw [z1P R.ok.1];exact(lC.set l.pl).ev fk.ev
   refine⟨(2 + rest (zN p i s) (i + 1)) + budget c2,?_,c2,zN p i s,eP,pR.set i (.ref a),cH,x,cs,X,bL,ai,aO,false,i + 1,_,_,!⟨⟨⟨t4,mI,xO.ev fk.ev,zU.mpr ⟨_,⟨x,cs,X,bL,ai,aO,false,cH,rfl,mq⟩,u6⟩⟩,R.ok.2.2,R.same,R.step.trans (Z.trans fk),mq,u6,λu m=> ?_⟩,by simp⟩⟩
   ·rw [zbc R.ok.1]
    show _ < 1 + (2 + rest p (i + 1) + budget c2)
    lia
   ·rcases take_set m with rfl | m
    ·exact z3x.ev (th:=th) (Z.trans fk).ev ⟨a,bB,ah,hd,wl,qv,rfl,R.nd.me⟩
    ·exact(aX u m).ev fk.ev
  | false=>
   refine ifF rfl ?_;refine !⟨_,.inl ⟨_,SqL.of x3,rfl⟩,?_⟩;rcases o with⟨rfl,all⟩ | ⟨k,w,r,rfl,hk,un,st⟩
   ·refine ifF (by rfl) ?_;rw [qB]at all;have hn:=z8x R.kd all;have u7:wfQ th (plug G s):=by rw [R.same];exact xM
    have gj:=l.ab;refine !⟨al,_,gj,th,s,_,rfl,z21 R.ok u7,l.pl,λq' e z N s5 ad h5=> ?_,λe N s5 h5=> ?_⟩
    ·have m5:N t=some (.ins D dx (trF (.ref a) al)):=s5 t _ (by rw [jt l.ne];exact l.me);refine !⟨rfl,!?_⟩;refine ifT (by rfl) ?_;refine !(!⟨t,D,dx,!⟨(by rw [zn l.ne];exact m5),TK.cls,TK.pl,by show 2 < 1000;decide,?_⟩⟩);rw [zb2];have I:hid (upd (upd N al (.lst O.reverse)) t (.ins D dx (trF (.ref z) al))) al=upd N t (.ins D dx (trF (.ref z) al)):=by rw [z1Z l.ne,ku h5]
     have v5:Ev th C (hid U al) N:=Ev.of (Nt.of s5);have L:Ev th C N (upd N t (.ins D dx (trF (.ref z) al))):=z5Z m5 z47;have E3:=z5l (z48 TT (z21 R.ok u7) e).h R.ok;rw [<-R.same]at fin;refine fin true _ G q' (.ref z) O (R.step.trans (Z.trans ⟨by rw [I];exact v5.trans L,λb ps e=> ?_⟩)) ⟨zj,by rw [zn l.ne.symm,zj],by rw [I];exact(l.up.ev v5).ev L,by rw [I];exact ad.ev L⟩ E3 (.inl ⟨rfl,G,s,q',R.ok,rfl,rfl,e,hn⟩);have n1:b≠t:=λz=>by rw [z,l.me]at e;cases e
     have n2:b≠al:=λz=>by rw [z,gj]at e;cases e
     rw [zn n1,zn n2];exact s5 _ _ (by rw [jt n2];exact e)
    ·refine !⟨rfl,!?_⟩;refine ifF (by rfl) ?_;have pT:=R.nd.ev (Z.ev.trans (Ev.of (Nt.of s5))) (s5 _ _ (z0v s3 _ _ R.nd.me)) (.inl rfl);have eR:a≠al:=z4h R.nd.me;refine !⟨a,C,bB,!⟨(by rw [zn eR];exact pT.me),PK.cls,PK.se,by show 5 < 1000;decide,?_⟩⟩;rw [zeI];have I:hid (upd (upd N al (.lst O.reverse)) a (.ins C bB (jD ah hd wl qv true))) al=upd N a (.ins C bB (jD ah hd wl qv true)):=by rw [z1Z eR,ku h5]
     have nq:=zdS e hn;have v5:Ev th C (hid U al) N:=Ev.of (Nt.of s5);have L:Ev th C N (upd N a (.ins C bB (jD ah hd wl qv true))):=z91 pT nq;have gi:t≠a:=λz=>by
      have:=l.me;rw [z,mK]at this
      injection this with this
      injection this with _ _ this
      exact z47 _ _ _ _ _ this.symm
     have m5:N t=some (.ins D dx (trF (.ref a) al)):=s5 t _ (by rw [jt l.ne];exact l.me);refine⟨1 + budget G,?_,G,s,O,ws,xs,a,ah,hd,wl,bB,qv,true,j,_,_,!⟨⟨⟨by rw [zn gi,zn l.ne];exact m5,by rw [zn eR.symm,zj],by rw [I];exact(l.up.ev v5).ev L,by rw [I];exact(l.pl.ev v5).ev L⟩,R.ok,R.same,R.step.trans (Z.trans ⟨by rw [I];exact v5.trans L,λb ps e=> ?_⟩),by rw [I];exact pT.ev L zj (.inr nq),by rw [I];exact R.kd.ev (Z.ev.trans (v5.trans L)),λu m=>by rw [I];exact(R.st u m).ev (Z.ev.trans (v5.trans L))⟩,by simp⟩⟩
     ·show 1 + budget G < 2 + rest s j + budget G
      lia
     ·have n1:b≠a:=λz=>by rw [z,mK]at e;cases e
      have n2:b≠al:=λz=>by rw [z,gj]at e;cases e
      rw [zn n1,zn n2];exact s5 _ _ (by rw [jt n2];exact e)
   ·refine ifT (by rfl) ?_;obtain⟨oX,_⟩:=we.mp hk;have cq:k < (kids s).length:=by rw [<-u5];exact oX
    obtain⟨w',db,pw⟩:=R.kd.at (wa cq);rw [hk]at db;cases db;obtain⟨xP,⟨a2,cs,X,cN,ce,bP,b2,cH,rfl,J⟩,lC⟩:=zU.mp pw;have eb:b2=false:=by
     cases b2 with
     | false=>rfl
     | true=>exact absurd ⟨a2,ce,cs,X,cN,bP,rfl,J.me⟩ un.not
    subst eb;have xQ:j<=k:=by
     rcases Nat.lt_or_ge k j with z | z
     ·exact absurd (R.st _ (qD (i:=k) (by rw [List.getElem?_take_of_lt z];exact hk))) un.not
     ·exact z
    have lc:O.length < sizeLine:=by
     have h1:=z5s R.ok;have h2:=z5U (plug G s);have h3:=R.tr.up.len;have h4:wt (plug G s)<=8000000:=by rw [R.same];exact xN
     exact z2S (by lia)
    refine !⟨t,dx,!⟨l.me,rfl,!(zw x3 zD ⟨t,dx,al,a,bB,ah,hd,wl,O.reverse,ws,qv,.ref a2,false,k,rfl,l.me,l.ab,(by rw [w0g];exact lc),mK,s3 _ _ wit,z4h R.nd.wit,hk,λp hp=> ?_⟩)⟩⟩;have np1:p≠al:=λz=>by rw [z,l.ab]at hp;cases hp
    have np2:p≠t:=λz=>by rw [z,l.me]at hp;cases hp
    have hh:hid U al p=none:=z1I hp;have I:hid (upd (upd (upd U p (.tup [.ref a,.int (k:Int)])) al (.lst (O.reverse ++ [.ref p]))) t (.ins D dx (trF (.ref a2) al))) al=upd (upd (hid U al) p (.tup [.ref a,.int (k:Int)])) t (.ins D dx (trF (.ref a2) al)):=by rw [z1Z l.ne,z1F,z1Z np1]
    have v5:Ev th C (hid U al) (upd (hid U al) p (.tup [.ref a,.int (k:Int)])):=Ev.of (Nt.of (zJ hh _));have mt:upd (hid U al) p (.tup [.ref a,.int (k:Int)]) t=some (.ins D dx (trF (.ref a) al)):=by rw [zn np2.symm,jt l.ne];exact l.me
    have L:=v5.trans (z5Z (th:=th) (C:=C) (gs:=trF (.ref a2) al) mt z47);have v7:=Z.ev.trans L;have keep:∀{a' ai cQ bg bL:Addr} {aO:V} {b':Bool},hid H1 al a'=some (.ins C ai (jD cQ bg bL aO b'))->upd (upd (hid U al) p (.tup [.ref a,.int (k:Int)])) t (.ins D dx (trF (.ref a2) al)) a'=some (.ins C ai (jD cQ bg bL aO b')):=λ{a' ai cQ bg bL aO b'} e=>by
     have Y:=z0v (d:=al) s3 _ _ e;rw [zn λz=>by rw [z,jt l.ne,l.me]at Y;injection Y with Y;injection Y with _ _ Y;exact z47 _ _ _ _ _ Y,zn λz=>by rw [z,hh]at Y;cases Y];exact Y
    have kq:(kids s)[k]? =some (kids s)[k]:=wa cq;refine⟨(2 + rest (kids s)[k] 0) + budget ((s,k) :: G),?_,(s,k) :: G,(kids s)[k],.ref p :: O,xP,cH,a2,cs,X,cN,ce,bP,false,0,_,_,!⟨⟨⟨zj,by rw [zn l.ne.symm,zj,QM],?_,by rw [I];exact pw.ev v7⟩,zaj kq R.ok,(z9u kq).trans R.same,R.step.trans (Z.trans ⟨by rw [I];exact L,λb ps e=> ?_⟩),?_,by rw [I];exact lC.ev v7,λu m=>by rw [w0u]at m;cases m⟩,by simp⟩⟩
    ·have r1:=z80 kq;have r2:=zbu (p:=s) xQ;have r3:=za9 (kids s)[k]
     show 2 + rest (kids s)[k] 0 + (2 + rest s (k + 1) + budget G) < 2 + rest s j + budget G
     lia
    ·rw [I];refine⟨p,.ref a,O,rfl,?_,⟨ws,⟨a,ah,hd,wl,bB,qv,false,xs,rfl,?_⟩,R.kd.ev v7,λu m=>(st u m).ev v7⟩,l.up.ev L⟩
     ·rw [zn np2,zj]
     ·exact R.nd.ev v7 (keep R.nd.me) (.inl rfl)
    ·have n1:b≠t:=λz=>by rw [z,l.me]at e;cases e
     have n2:b≠al:=λz=>by rw [z,l.ab]at e;cases e
     have n3:b≠p:=λz=>by rw [z,hp]at e;cases e
     rw [zn n1,zn n2,zn n3];exact e
    ·rw [I];exact J.ev v7 (keep J.me) (.inl rfl)
inductive spTWhole (C D:Addr) (vs:List V) (H:Hp) (Q:VK) (E:XK):Prop
 | mk:∀th t al dx c q v us,vs= [.ref t]->TrAt th C D H t al c q v dx us->z02 th c q->(∀(v':V) (H':Hp),zz H H'->QAt H' (plug c q) v'->Q v' H')->spTWhole C D vs H Q E
theorem zaE{th:Str->List Str}:∀{c:List (Qn×Nat)} {q p:Qn} {j i:Nat},z02 th c q->c[j]? =some (p,i)->i < (kids p).length
 | [],_,_,_,_,_,e=>by cases e
 | (p,i) :: c,_,_,0,_,h,e=>by cases e;exact h.1
 | (p,i) :: c,_,_,j + 1,_,h,e=>zaE (j:=j) h.2.2 (by simpa using e)
theorem yu.set:∀{qs:List Qn} {vs:List V} {i:Nat} {q:Qn} {v:V},yu H qs vs->QAt H q v->yu H (qs.set i q) (vs.set i v)
 | [],_,_,_,_,h,_=>by rw [show _= []from h];rfl
 | r :: qs,_,0,_,v,⟨u,us,a,h1,h2⟩,h=>by subst a;exact⟨v,us,rfl,h,h2⟩
 | r :: qs,_,i + 1,_,v,⟨u,us,a,h1,h2⟩,h=>by subst a;exact⟨u,us.set i v,rfl,h1,h2.set h⟩
theorem jV:FnScope ["self","question","over","spot","parts"] ["self"] (zm kg):=by walk_at "s"
theorem z3y(F:Fun K "whole" "Turner.whole" kg f fd)(T:Txt K mg)(r:PC K C)(O:TC K D):FnOk P w K mg base CX0 1 f fd ["self"] (spTWhole C D):=by
 refine F.okB jV (λvs H Q E h=> ?_) (λvs H Q E h=> ?_)
 ·obtain⟨th,t,al,dx,c,q,v,us,rfl,_⟩:=h
  rfl
 obtain⟨th,t,al,dx,c,q,v,us,rfl,d,iU,fin⟩:=h;obtain⟨tU,⟨a0,tV,tW,tX,tY,pQ,b0,tZ,rfl,U⟩,u4⟩:=zU.mp d.pl;have xR:=yk _ _ U.me;have lu:=d.up.len;intro ac A outer sh hr;refine⟨_,(ze (seT 1 jV (zE (zE v0 rfl) rfl))
  (ze (foR (zd5 rfl T.reversed (zO (zE v0 rfl) zd)) (z9Q rfl (z2T (gnM 2 jV) (z2T (gnM 3 jV) z8y)))
   (ze (jH (j:=4) rfl jV.nd rfl (QV rfl) (CompSc.of (sx:=zm kg) (NX:= ["self","question","over","spot","parts"]) (fr:= []) (ix:= []) rfl rfl (by decide +kernel)) (jb (zE v2 rfl)) (λ_ _ _ _ _ _=>jM) (λ_ _ _ _ _ _=>(z3L (K:=K) rfl v0 rfl)))
   (ze (z7P v1 (z7h v4 v3 set_list))
   (zh (seT 1 jV (zr z3Q (zE v2 rfl) (je z0Q rfl T.tuple Qz (zf v4 zd))))))))
  (zh (zt v1)))),?_⟩
 generalize hK0:K=K1;generalize hK1:C=C1;generalize hK2:D=D1
 revert D1
 revert C1
 revert K1
 refine z5G (by walk_at "cl") ?_;refine !(z5h O d.me (zcs r xR ?_));refine !(z8F O d.me ⟨al,!⟨SqL.of d.ab,?_⟩⟩);refine zc6 (xs:=us.reverse) (λi σ H'=>∃u l s B,σ= [some (.ref t),some u,l,s,B]/\zz H H'/\QAt H' (plug (c.take i) q) u) ⟨pQ,none,none,none,rfl,zz.refl _,U.qst.same yk⟩ ?_ ?_ ?_
 ·rintro i σ H' _ ⟨u,l,s,B,rfl,s',_⟩;exact SqL.of (s' _ _ d.ab)
 ·rintro i x σ H' hi ⟨u,l,s,B,rfl,s',n⟩;rw [List.reverse_reverse]at hi;obtain⟨p,k,pa,pv,hc,rfl,fj,xS⟩:=d.up.at hi;have hk:=zaE iU hc;obtain⟨ws,⟨a,ah,hd,wl,bB,qv,b,xs,rfl,nd⟩,kd⟩:=zU.mp xS;have lo:zz (hid H al) H':=yk.trans s';have me:=lo _ _ nd.me;have wit:=lo _ _ nd.wit;have lw:=kd.len;have lk:=z2N p;have xT:=kd.ev (Ev.of (Nt.of lo));refine⟨pa,!⟨SqT.of (lo _ _ fj),rfl,_,[_],rfl,_,[],rfl,rfl,?_⟩⟩;refine !(k5 r me ⟨wl,rfl,⟨_,SqL.of wit⟩,?_⟩);refine jF (xs:=ws) (λi ys H2=>H2=H'/\ys.length=i/\yu H' ((kids p).take i) ys) ⟨rfl,rfl,by rw [w0u];rfl⟩ ?_ ?_ ?_
  ·rintro i ys H2 hi ⟨rfl,J,_⟩;exact⟨SqL.of wit,zG (by lia)⟩
  ·rintro i y ys H2 hi ⟨rfl,J,hq⟩;have Y:i < (kids p).length:=by rw [<-lw];exact(we.mp hi).1
   obtain⟨v,N,pv⟩:=xT.at (wa Y);rw [hi]at N;cases N;obtain⟨us,⟨a2,cs,bF,cN,ce,bP,b2,cH,rfl,X⟩,_⟩:=zU.mp pv;refine !(zcs r X.me ⟨rfl,by rw [wb,J];rfl,?_⟩);rw [q9,wa Y];exact hq.app ⟨_,[],rfl,X.qst,rfl⟩
  ·rintro ys H2 ⟨rfl,J,hq⟩ np R;rw [lw,qB]at hq;refine zc (upd _ np _) rfl R λM n3 x3=> ?_
   refine !(!(!⟨np,_,_,k,rfl,rfl,x3,z8d (by lia),?_⟩));have G:zz H2 (upd M np (.lst (ys.set k u))):=λb o e=>by rw [zn λz=>by rw [z,R]at e;cases e];exact n3 _ _ e
   have S:upd M np (.lst (ys.set k u)) np=some (.lst (ys.set k u)):=zj;generalize upd M np (.lst (ys.set k u))=H4 at G S ⊢;have xU:=(hq.set (i:=k) n).same G;refine !(yI r (G _ _ me) (!⟨np,!(.inl ⟨SqL.of S,λtp ax=> ?_⟩)⟩));refine zc (upd _ tp _) rfl ax λH5 Z x5=> ?_
   have L:=G.trans Z;have De:ys.length=(kids p).length:=by lia
   have c9:kN H5 (zN p k (plug (c.take i) q)) xs:=zaa (nd.ahx.mono λb xs z=>L _ _ (lo _ _ z));refine⟨ah,tp,xs,!⟨rfl,SqT.of (L _ _ (lo _ _ nd.ahd)),SqT.of x5,(z4m nd.ahx).1,?_,λe=> ?_,λne p' aa=> ?_⟩⟩
   ·have:=(z4m nd.ahx).2;rw [List.length_set];exact ja (by lia)
   ·have:=Qa List.length e;rw [List.length_set]at this;have:ys.length=0:=this
    lia
   ·refine zc (upd _ p' _) rfl aa λH6 I x6=> ?_
    have s6:=L.trans I;refine⟨.ref p',_,_,!⟨s'.trans s6,?_⟩⟩;have et:c.take (i + 1)=c.take i ++ [(p,k)]:=by rw [q9,hc];rfl
    rw [et,z52];refine zdB (c9.mono λb xs z=>I _ _ z) ?_ x6;rw [z1P hk];exact xU.same (Z.trans I)
 ·rintro σ H' ⟨u,l,s,B,rfl,s',n⟩;rw [w0g,lu,qB]at n;exact !(fin u H' s' n)
inductive Tns (th:Str->List Str) (H:Hp):List V->Qn->Qn->Prop
 | one:∀q v,QAt H q v->Tns th H [v] q q
 | more:∀us p q r v,Tns th H us p q->One th q r->QAt H r v->Tns th H (us ++ [v]) p r
theorem Tns.mono(k:∀b xs,H b=some (.tup xs)->H' b=some (.tup xs))(h:Tns th H us p q):Tns th H' us p q:=by
 induction h with
 | one q v h=>exact .one q v (h.mono k)
 | more us p q r v _ o h a=>exact .more us p q r v a o (h.mono k)
theorem Tns.last(h:Tns th H us p q):∃vs v,us=vs ++ [v]/\QAt H q v:=by
 cases h with
 | one q v h=>exact⟨[],_,rfl,h⟩
 | more us p q r v t o h=>exact⟨_,_,rfl,h⟩
theorem Tns.eqv(T:TabOk th tr)(h:Tns th H us p q)(wf:wfQ th p):Eqv th tr p q/\us.length + nu th q<=nu th p + 1/\wt q<=wt p:=by
 induction h with
 | one q v h=>exact⟨Eqv.refl wf,by rw [wD];lia,ww _⟩
 | more us p q r v t o h a=>
  obtain⟨e,l,w⟩:=a wf;have d:=o.dn T e.wf;exact⟨e.trans (o.eqv T e.wf),by rw [wb,wD];have:=d.nu;lia,wV d.wt w⟩
inductive spTurnings (C T4:Addr) (vs:List V) (H:Hp) (Q:VK) (E:XK):Prop
 | mk:∀th tr q v tp,vs= [.ref tp,v]->TabOk th tr->jE th tr H tp->QAt H q v->wfQ th q->wt q<=4000->z1z H T4 za1 z9J->(∀(l:Addr) (us:List V) (q':Qn) (H':Hp),Ev th C H H'->H' l=some (.lst us)->Tns th H' us q q'->nf th q'->Q (.ref l) H')->spTurnings C T4 vs H Q E
theorem z1N:FnScope ["tables","question","turner","questions"] ["tables","question"] (zm z2k):=by walk_at "s"
theorem z6D(F:Fun K "turnings" "turnings" z2k f fd)(T:Txt K mg)(p:KnC P w K mg base 10 "Turner" ["self","tables","question"] (spTInit C D T4) D)(j:KnM P w K mg base 10 "turn" ["self"] (spTurn C D) D)(i:KnM P w K mg base 1 "whole" ["self"] (spTWhole C D) D):FnOk P w K mg base CX0 12 f fd ["tables","question"] (spTurnings C T4):=by
 refine F.okB z1N (λvs H Q E h=> ?_) (λvs H Q E h=> ?_)
 ·obtain⟨th,tr,q,v,tp,rfl,_⟩:=h
  rfl
 obtain⟨th,tr,q,v,tp,rfl,TT,h4,hq,wf,O,hT,fin⟩:=h;intro ac A outer sh hr;refine⟨_,(ze (seT 2 z1N (yr p hr.m rfl (zf v0 (zf v1 zd))))
  (ze (seT 3 z1N (zx (zf v1 zd)))
  (ze (z6r (jq (z6B j hr.m v2))
   (zh (jg (apP v3 (zT (z6B i hr.m v2) zd)))))
  (zh (zt v3))))),?_⟩
 generalize hK0:K=K1
 revert K1
 refine jo (by walk_at "cl") ?_;refine !(!(λx dx J gg aq=> ?_));have s1:zz H (upd (upd H dx (.own x)) x (.ins D dx [])):=λb o e=>by
  have b1:b≠x:=λz=>by rw [z,J]at e;cases e
  have b2:b≠dx:=λz=>by rw [z,gg]at e;cases e
  rw [zn b1,zn b2];exact e
 refine⟨th,tr,q,v,x,dx,tp,rfl,zj,TT,h4.same s1,hq.same s1,wf,wV (z5U q) (by lia),hT.same s1,λv1 al H1 Z t1=>⟨rfl,?_⟩⟩;have Y:Ev th C H (hid H1 al):=⟨λb o e n _=>Z b o (λz=>by rw [z,J]at e;cases e) (s1 _ _ e) n,λa ai ah hd wl qv b e=>⟨b,Z a _ (λz=>by rw [z,J]at e;cases e) (s1 _ _ e) (λ_ z=>by cases z),.inl rfl⟩⟩;refine !⟨(zq rfl),λl hl=> ?_⟩;refine z1E ?_;dsimp only;refine z2D ?_;have mi:QAt H1 q v:=hq.mono λb xs e=>yk _ _ (Y.tup e)
 refine z0H (λm σ H2=>∃c s v2 ws us,σ= [some (.ref tp),some v,some (.ref x),some (.ref l)]/\H2 l=some (.lst us)/\TrAt th C D (hid H2 l) x al c s v2 dx ws/\z02 th c s/\Tns th (hid H2 l) us q (plug c s)/\Ev th C H (hid (hid H2 l) al)/\m=nu th (plug c s))
  _ ⟨[],q,v1,[],[v],rfl,zj,by rw [ku hl];exact t1,trivial,by rw [ku hl];exact .one q v mi,by rw [ku hl];exact Y,rfl⟩ ?_
 rintro m σ H2 ⟨c,s,v2,ws,us,rfl,l2,G,xV,R,e2,rfl⟩;obtain⟨X,n2,w2⟩:=R.eqv TT wf;refine !⟨x,dx,_,l,us,rfl,yk _ _ G.me,rfl,l2,th,tr,x,al,dx,c,s,v2,ws,rfl,TT,G,xV,X.wf,by lia,λr L c' q' v' U st I u o B=>!?_⟩;have S:=e2.trans st.ev;have N:hid (upd L l (.lst us)) l=L:=ku B;have M:Tns th L us q (plug c s):=R.mono λb xs e=>yk _ _ (st.ev.tup (zcc G.ab b xs e))
 rcases o with⟨rfl,on⟩ | ⟨rfl,ep,xW⟩
 ·refine ifT rfl ?_;refine⟨_,λσ' H' z=>z,?_⟩;refine !⟨.inl ⟨rfl,_,SqL.of zj⟩,!⟨x,dx,_,l,us,rfl,zJ B _ _ _ I.me,rfl,zj,th,x,al,dx,c',q',v',U,rfl,by rw [N];exact I,u,λv4 H4 y iL t=> ?_⟩⟩;rw [N]at y;have d:=on.dn TT X.wf;refine⟨l,ex2 rfl rfl ⟨zj,by
   have z1:=zel (th:=th) q;have z2:wt q * wt q<=4000 * 4000:=w0K O O;have z3:sizeLine=16777216:=QW;have z4:=d.nu
   lia,?_⟩⟩
  refine⟨_,d.nu,c',q',v',U,us ++ [v4],rfl,zj,?_,u,?_,?_,rfl⟩
  ·rw [z1F,ku t];exact I.same y
  ·rw [z1F,ku t];exact .more us q _ _ v4 (M.mono λb xs e=>y _ _ e) on iL
  ·rw [z1F,ku t];exact S.trans (Ev.of (Nt.of (z0v y)))
 ·refine ifF rfl ?_;exact !(fin l us _ _ (S.trans (Ev.of (Nt.of (yk.trans (zJ B _))))) zj (by rw [ep];exact M.mono λb xs e=>zJ B _ _ _ e) xW)
inductive spHdBy (K:W.Frag) (n:Nat) (vs:List V) (H:Hp) (Q:VK) (E:XK):Prop
 | mk:∀th tr q v tp,vs= [v,.ref tp]->TabOk th tr->jE th tr H tp->QAt H q v->wfQ th q->depth q<=n->(∀(hp:Addr) (H':Hp),zz H H'->H' hp=some (.lst ((za th q).map V.str))->Q (.ref hp) H')->spHdBy K n vs H Q E
theorem z0E:FnScope ["_law_asked","_law_tables","_law_word"] ["_law_asked","_law_tables"] (zm yc):=by walk_at "s"
theorem noS{a b:Str}(h:a≠b):decide (V.str a=V.str b)=false:=by rw [zW];exact wI h
def z2J(a:Str):decide (V.str a=V.str a)=true:=wN rfl
theorem z28(F:Fun K "_law_headed_by" "_law_headed_by" yc f fd)(T:Txt K mg)(n:Nat)(o:Kn P w K mg base n "_law_headed_by" ["_law_asked","_law_tables"] (spHdBy K n)):FnOk P w K mg base CX0 (n + 1) f fd ["_law_asked","_law_tables"] (spHdBy K (n + 1)):=by
 refine F.okB z0E (λvs H Q E h=> ?_) (λvs H Q E h=> ?_)
 ·obtain⟨th,tr,q,v,tp,rfl,_⟩:=h
  rfl
 obtain⟨th,tr,q,v,tp,rfl,TT,G,hq,wf,hd,fin⟩:=h;have Z:=jK TT wf;intro ac A outer sh hr;refine⟨_,(ze (seT 2 z0E (ixT v0 zb))
  (ze (zF (cmT zK v2 zi)
   (zh (zt (ixL (yz rfl (CompSc.of (sx:=zm yc) (NX:= ["_law_asked","_law_tables","_law_word"]) (fr:= ["_law_asked"]) (ix:= [0]) rfl rfl (by decide +kernel)) (jb v1) (λ_ _ _ _ _ _=>(z0F (cmT zK (yK (z0j (K:=K) rfl) v0 zb (λ_ _=>rfl)) (yK (z0j (K:=K) rfl) v1 zb (λ_ _=>rfl))))) (λ_ _ _ _ _ _=>(yK (z0j (K:=K) rfl) v0 zb (λ_ _=>rfl)))) zb)))
   zu)
  (ze (zF (jR jO v2 (zx (zo zi (zo zi zd))) (by with_unfolding_all rfl))
   (zh (zt (zr ke (zV o hr.m (zl (ixT v0 (k8 yl zb)) (zf v1 zd))) (zV o hr.m (zl (ixT v0 (k8 yl zb)) (zf v1 zd))))))
   zu)
  (ze (zF (cmT zK v2 zi)
   (zh (zt (je jY rfl T.list qF (zl (ixT v0 zb) zd))))
   zu)
  (ze (zF (cmT zK v2 zi)
   (zh (zt (zx (zl (ixT v0 zb) (zl (ixT v0 zb) (zl (ixT v0 zb) zd))))))
   zu)
  (ze (zF (cmT zK v2 zi)
   (zh (zt (zV o hr.m (zl (ixT v0 zb) (zf v1 zd)))))
   zu)
  (zh (zt (zV o hr.m (zl (ixT v0 (k8 yl zb)) (zf v1 zd))))))))))),?_⟩
 generalize hK0:K=K1
 revert K1
 refine jo (by walk_at "cl") ?_;cases q with
 | table m=>
  obtain⟨p,rfl,h1⟩:=hq;obtain⟨vs,ck,l4,da⟩:=z2W G;obtain⟨j,L,U⟩:=z8k (show m∈tabs from wf);obtain⟨vj,u8,pj,u9,Df,Dg,xX,X,ub,Dh,Di⟩:=da j L;have uniq:∀i,i < 4->tabs.getD i ""=m->i=j:=λi hi e=>by
   rw [<-U]at e;have u:∀i,i < 4->∀j,j < 4->tabs.getD i ""=tabs.getD j ""->i=j:=by decide +kernel
   exact u i hi j L e
  rw [U]at X ub;refine !(zg h1 zD ?_);refine !⟨rfl,!?_⟩;refine ifT (z2J _) ?_;refine !⟨tp,rfl,⟨_,SqL.of ck⟩,?_⟩;refine kF (xs:=vs) (λi ys H'=>H'=H/\ys=if j < i then [.ref u9]else []) ⟨rfl,by rw [wM (Nat.not_lt_zero _)]⟩ ?_ ?_ ?_
  ·rintro i ys H' hi ⟨rfl,rfl⟩;exact⟨SqL.of ck,zG (by split <;> simp)⟩
  ·rintro i x ys H' hi ⟨rfl,rfl⟩;have dO:i < 4:=by rw [<-l4];exact(we.mp hi).1
   obtain⟨v,Y,p',hp,rp,rs,rfl,t1,t2,t3,t4⟩:=da i dO;rw [hi]at Y;cases Y;refine !(zg t1 zD (!(zg h1 jc ⟨rfl,!?_⟩)));by_cases e:tabs.getD i ""=m
   ·refine ifT (by rw [zW];exact wN e) ?_;have xY:=uniq i dO e;subst xY;rw [hi]at u8;cases u8;cases xX;refine !(zg X jc ⟨rfl,?_⟩);rw [wM (QO _),wU (w0m _)]
    rfl
   ·refine ifF (by rw [zW];exact wI e) ?_;refine⟨rfl,?_⟩;have:i≠j:=λz=>e (by rw [z];exact U)
    by_cases h:j < i
    ·rw [wU h,wU (by lia)]
    ·rw [wM h,wM (by lia)]
  ·rintro ys H' ⟨rfl,rfl⟩ np aA;rw [l4,wU L];refine zc (upd _ np _) rfl aA λH1 r x1=> ?_
   exact zw x1 zD (fin u9 H1 r (r _ _ ub))
 | pair a b=>
  obtain⟨p,x,y,rfl,h1,h2,D⟩:=hq;refine !(zg h1 zD ?_);refine !⟨rfl,!?_⟩;refine ifF (noS (by decide +kernel)) ?_;refine !⟨(zq rfl),λlp t=> ?_⟩;refine zc (upd _ lp _) rfl t λH1 r x1=> ?_
  refine⟨lp,!⟨.inl (SqL.of x1),rfl,rfl,!?_⟩⟩;refine ifT (by decide +kernel) ?_;have J:depth a<=n/\depth b<=n:=by simp only [depth]at hd;lia
  refine !(!(zg (r _ _ h1) rfl (!⟨th,tr,a,x,tp,rfl,TT,G.same r,h2.same r,wf.2.2.1,J.1,λR H2 B C=> ?_⟩)));have s2:=r.trans B;refine !(!(zg (s2 _ _ h1) rfl (!⟨th,tr,b,y,tp,rfl,TT,G.same s2,D.same s2,wf.2.2.2,J.2,λp2 H3 I S=> ?_⟩)));refine⟨R,p2,ex2 rfl rfl ⟨I _ _ C,S,ja (by have:=Z.2;rw [w9,w9];simp only [za,wb]at this;lia),λl hl=> ?_⟩⟩;refine zc (upd _ l _) rfl hl λM O N=> ?_
  exact fin l M (s2.trans (I.trans O)) (by rw [N];show _=some (HO.lst ((za th a ++ za th b).map V.str));rw [wC])
 | join c d a b=>
  obtain⟨p,x,y,rfl,h1,h2,D⟩:=hq;refine !(zg h1 zD ?_);refine !⟨rfl,!?_⟩;refine ifF (noS (by decide +kernel)) ?_;refine !⟨(zq rfl),λlp t=> ?_⟩;refine zc (upd _ lp _) rfl t λH1 r x1=> ?_
  refine⟨lp,!⟨.inl (SqL.of x1),rfl,rfl,!?_⟩⟩;refine ifT (by decide +kernel) ?_;have J:depth a<=n/\depth b<=n:=by simp only [depth]at hd;lia
  refine !(!(zg (r _ _ h1) rfl (!⟨th,tr,a,x,tp,rfl,TT,G.same r,h2.same r,wf.2.2.2.2.1,J.1,λR H2 B C=> ?_⟩)));have s2:=r.trans B;refine !(!(zg (s2 _ _ h1) rfl (!⟨th,tr,b,y,tp,rfl,TT,G.same s2,D.same s2,wf.2.2.2.2.2,J.2,λp2 H3 I S=> ?_⟩)));refine⟨R,p2,ex2 rfl rfl ⟨I _ _ C,S,ja (by have:=Z.2;rw [w9,w9];simp only [za,wb]at this;lia),λl hl=> ?_⟩⟩;refine zc (upd _ l _) rfl hl λM O N=> ?_
  exact fin l M (s2.trans (I.trans O)) (by rw [N];show _=some (HO.lst ((za th a ++ za th b).map V.str));rw [wC])
 | cols ns q=>
  obtain⟨p,x,y,rfl,h1,h2,D⟩:=hq;refine !(zg h1 zD ?_);refine !⟨rfl,!?_⟩;refine ifF (noS (by decide +kernel)) ?_;refine !⟨(zq rfl),λlp t=> ?_⟩;refine zc (upd _ lp _) rfl t λH1 r x1=> ?_
  refine⟨lp,!⟨.inl (SqL.of x1),rfl,rfl,!?_⟩⟩;refine ifF (by decide +kernel) ?_;refine !⟨rfl,!?_⟩;refine ifT (z2J _) ?_;refine !(zg (r _ _ h1) jc ⟨x,!⟨.inr (SqT.of (r _ _ h2)),λl hl=> ?_⟩⟩);refine zc (upd _ l _) rfl hl λH2 B C=> ?_
  exact fin l H2 (r.trans B) C
 | group a b m s q=>
  obtain⟨p,y,rfl,h1,D⟩:=hq;refine !(zg h1 zD ?_);refine !⟨rfl,!?_⟩;refine ifF (noS (by decide +kernel)) ?_;refine !⟨(zq rfl),λlp t=> ?_⟩;refine zc (upd _ lp _) rfl t λH1 r x1=> ?_
  refine⟨lp,!⟨.inl (SqL.of x1),rfl,rfl,!?_⟩⟩;refine ifF (by decide +kernel) ?_;refine !⟨rfl,!?_⟩;refine ifF (noS (by decide +kernel)) ?_;refine !⟨rfl,!?_⟩;refine ifT (z2J _) ?_;refine !(zg (r _ _ h1) jc (!(zg (r _ _ h1) z0O (!(zg (r _ _ h1) zdL ⟨(zq rfl),λl hl=> ?_⟩)))));refine zc (upd _ l _) rfl hl λH2 B C=> ?_
  exact fin l H2 (r.trans B) C
 | both a b=>
  obtain⟨p,x,y,rfl,h1,h2,D⟩:=hq;refine !(zg h1 zD ?_);refine !⟨rfl,!?_⟩;refine ifF (noS (by decide +kernel)) ?_;refine !⟨(zq rfl),λlp t=> ?_⟩;refine zc (upd _ lp _) rfl t λH1 r x1=> ?_
  refine⟨lp,!⟨.inl (SqL.of x1),rfl,rfl,!?_⟩⟩;refine ifF (by decide +kernel) ?_;refine !⟨rfl,!?_⟩;refine ifF (noS (by decide +kernel)) ?_;refine !⟨rfl,!?_⟩;refine ifF (noS (by decide +kernel)) ?_;refine !⟨rfl,!?_⟩;refine ifT (z2J _) ?_;exact !(zg (r _ _ h1) jc (!⟨th,tr,a,x,tp,rfl,TT,G.same r,h2.same r,wf.2.1,by simp only [depth]at hd;lia,λhp H2 B C=>fin hp H2 (r.trans B) C⟩))
 | pick c q=>
  obtain⟨p,x,y,rfl,h1,h2,D⟩:=hq;refine !(zg h1 zD ?_);refine !⟨rfl,!?_⟩;refine ifF (noS (by decide +kernel)) ?_;refine !⟨(zq rfl),λlp t=> ?_⟩;refine zc (upd _ lp _) rfl t λH1 r x1=> ?_
  refine⟨lp,!⟨.inl (SqL.of x1),rfl,rfl,!?_⟩⟩;refine ifF (by decide +kernel) ?_;refine !⟨rfl,!?_⟩;refine ifF (noS (by decide +kernel)) ?_;refine !⟨rfl,!?_⟩;refine ifF (noS (by decide +kernel)) ?_;refine !⟨rfl,!?_⟩;refine ifF (noS (by decide +kernel)) ?_;exact !(!(zg (r _ _ h1) rfl (!⟨th,tr,q,y,tp,rfl,TT,G.same r,D.same r,wf.2.2,by simp only [depth]at hd;lia,λhp H2 B C=>fin hp H2 (r.trans B) C⟩)))
 | first m q=>
  obtain⟨p,y,rfl,h1,D⟩:=hq;refine !(zg h1 zD ?_);refine !⟨rfl,!?_⟩;refine ifF (noS (by decide +kernel)) ?_;refine !⟨(zq rfl),λlp t=> ?_⟩;refine zc (upd _ lp _) rfl t λH1 r x1=> ?_
  refine⟨lp,!⟨.inl (SqL.of x1),rfl,rfl,!?_⟩⟩;refine ifF (by decide +kernel) ?_;refine !⟨rfl,!?_⟩;refine ifF (noS (by decide +kernel)) ?_;refine !⟨rfl,!?_⟩;refine ifF (noS (by decide +kernel)) ?_;refine !⟨rfl,!?_⟩;refine ifF (noS (by decide +kernel)) ?_;exact !(!(zg (r _ _ h1) rfl (!⟨th,tr,q,y,tp,rfl,TT,G.same r,D.same r,wf.2,by simp only [depth]at hd;lia,λhp H2 B C=>fin hp H2 (r.trans B) C⟩)))
 | sort a q=>
  obtain⟨p,y,rfl,h1,D⟩:=hq;refine !(zg h1 zD ?_);refine !⟨rfl,!?_⟩;refine ifF (noS (by decide +kernel)) ?_;refine !⟨(zq rfl),λlp t=> ?_⟩;refine zc (upd _ lp _) rfl t λH1 r x1=> ?_
  refine⟨lp,!⟨.inl (SqL.of x1),rfl,rfl,!?_⟩⟩;refine ifF (by decide +kernel) ?_;refine !⟨rfl,!?_⟩;refine ifF (noS (by decide +kernel)) ?_;refine !⟨rfl,!?_⟩;refine ifF (noS (by decide +kernel)) ?_;refine !⟨rfl,!?_⟩;refine ifF (noS (by decide +kernel)) ?_;exact !(!(zg (r _ _ h1) rfl (!⟨th,tr,q,y,tp,rfl,TT,G.same r,D.same r,wf.2,by simp only [depth]at hd;lia,λhp H2 B C=>fin hp H2 (r.trans B) C⟩)))
theorem z0B(F:Fun K "_law_headed_by" "_law_headed_by" yc f fd)(T:Txt K mg)(a:∀k sp,FnOk P w K mg base CX0 k f fd ["_law_asked","_law_tables"] sp->Kn P w K mg base k "_law_headed_by" ["_law_asked","_law_tables"] sp):∀n,FnOk P w K mg base CX0 n f fd ["_law_asked","_law_tables"] (spHdBy K n)
 | 0=>⟨λvs H Q E h=>by obtain⟨th,tr,q,v,tp,rfl,_⟩:=h;rfl,λA outer s H args us vs Q E hr b c d h=>by
  obtain⟨th,tr,q,v,tp,_,_,_,_,_,hz,_⟩:=h;cases q <;> simp only [depth]at hz <;> lia⟩
 | n + 1=>z28 F T n (a n _ (z0B F T a n))
theorem z7s{v:V}(h:zI H c v):(∃(p:Addr) (w:Str) (a b:Side),v= .ref p/\H p=some (.tup [.str w,a.v,b.v])/\inV (.str w) [.str "less",.str "same"]=true/\c.cols=a.cols ++ b.cols)\/
  ∃(p:Addr) (w:Str) (ks:List (V×Cond)),v= .ref p/\H p=some (.tup (.str w :: ks.map (·.1)))/\inV (.str w) [.str "less",.str "same"]=false/\(∀g∈ks,zI H g.2 g.1)/\(∀s,s∈c.cols↔∃g∈ks,s∈g.2.cols)/\yB ks + 1=c.size/\ks.length<=2/\∀a b,c≠ .same a b:=by
 cases c with
 | less a b=>obtain⟨p,rfl,h⟩:=h;exact .inl ⟨p,_,a,b,rfl,h,by decide +kernel,rfl⟩
 | same a b=>obtain⟨p,rfl,h⟩:=h;exact .inl ⟨p,_,a,b,rfl,h,by decide +kernel,rfl⟩
 | no c=>obtain⟨p,x,rfl,h,h1⟩:=h;exact .inr ⟨p,_,[(x,c)],rfl,h,by decide +kernel,by simpa using h1,by simp [Cond.cols],by simp [yB,Cond.size],by simp,λ_ _=>nofun⟩
 | an c d=>obtain⟨p,x,y,rfl,h,h1,h2⟩:=h;exact .inr ⟨p,_,[(x,c),(y,d)],rfl,h,by decide +kernel,by simpa using ⟨h1,h2⟩,by simp [Cond.cols],by simp [yB,Cond.size],by simp,λ_ _=>nofun⟩
 | or c d=>obtain⟨p,x,y,rfl,h,h1,h2⟩:=h;exact .inr ⟨p,_,[(x,c),(y,d)],rfl,h,by decide +kernel,by simpa using ⟨h1,h2⟩,by simp [Cond.cols],by simp [yB,Cond.size],by simp,λ_ _=>nofun⟩
theorem z78(a b:List (V×Cond)):yB (a ++ b)=yB a + yB b:=by simp [yB]
theorem z81(a:Side):a.cols.length<=1:=by cases a <;> simp [Side.cols]
inductive spNamed (K:W.Frag) (vs:List V) (H:Hp) (Q:VK) (E:XK):Prop
 | mk:∀c vc,vs= [vc]->zI H c vc->c.size<=1000->(∀(l:Addr) (ss:List Str) (H':Hp),zz H H'->H' l=some (.lst (ss.map V.str))->(∀s,s∈ss↔s∈c.cols)->ss.length<=2 * c.size->(∀a b,c= .same a b->ss=c.cols)->Q (.ref l) H')->spNamed K vs H Q E
theorem yx:FnScope ["_law_condition","_law_names","_law_todo","_law_part"] ["_law_condition"] (zm z0l):=by walk_at "s"
theorem z4W(F:Fun K "_law_named" "_law_named" z0l f fd)(T:Txt K mg):FnOk P w K mg base CX0 1 f fd ["_law_condition"] (spNamed K):=by
 refine F.okB yx (λvs H Q E h=> ?_) (λvs H Q E h=> ?_)
 ·obtain⟨c,vc,rfl,_⟩:=h
  rfl
 obtain⟨c,vc,rfl,hc,hz,q⟩:=h;intro ac A outer sh hr;have hu:=z1u hr;refine⟨_,(ze (seT 1 yx (zx zd))
  (ze (seT 2 yx (zx (zf v0 zd)))
  (ze (z6r (cmT (z2G hu) v2 (zx zd))
   (ze (seT 3 yx (z3i qj QR QS z3e v2))
   (zh (zF (jR jO (ixT v3 zb) (zx (zo zi (zo zi zd))) (by with_unfolding_all rfl))
    (zh (seT 1 yx (zr ke v1 (yz rfl (CompSc.of (sx:=zm z0l) (NX:= ["_law_condition","_law_names","_law_todo","_law_part"]) (fr:= []) (ix:= []) rfl rfl (by decide +kernel)) (z31 (j8 z0R v3 (jn zb) jx)) (λ_ _ _ _ _ _=>(z0F (jq (zQ (z60 (K:=K) rfl) rfl T.isinstance wX (zf v0 (zf (yn (v:= .ty "str") rfl T.str qX rfl) zd)))))) (λ_ _ _ _ _ _=>v0)))))
    (zh (seT 2 yx (zr ke v2 (je jY rfl T.list qF (zl (j8 z0R v3 (jn zb) jx) zd)))))))))
  (zh (zt v1))))),?_⟩
 generalize hK0:K=K1
 revert K1
 refine jo (by walk_at "cl") ?_;refine⟨(zq rfl),λnp aA=> ?_⟩;refine zc (upd _ np _) rfl aA λH1 n1 x1=> ?_
 refine !⟨(zq rfl),λtp M=> ?_⟩;have fw:H tp=none:=n1.free M;have uc:np≠tp:=λz=>by rw [z,M]at x1;cases x1
 have r:=n1.trans (zJ M (.lst [vc]));refine z1E ?_;dsimp only;refine z2D ?_;refine z0H (λm σ H'=>∃(fs:List (V×Cond)) (ss:List Str) (np tp:Addr) (o3:Option V),σ= [some vc,some (.ref np),some (.ref tp),o3]/\zz H H'/\H' np=some (.lst (ss.map V.str))/\H' tp=some (.lst (fs.map (·.1)))/\H tp=none/\np≠tp/\(∀g∈fs,zI H g.2 g.1)/\(∀s,s∈c.cols↔s∈ss\/∃g∈fs,s∈g.2.cols)/\
   ss.length + 2 * yB fs<=2 * c.size/\(∀a b,c= .same a b->fs= [(vc,c)]/\ss= []\/fs= []/\ss=c.cols)/\m=yB fs) (yB [(vc,c)])
  ⟨[(vc,c)],[],np,tp,none,rfl,r,by rw [zn uc];exact x1,zj,fw,uc,by simpa using hc,by simp,by simp [yB],λ_ _ _=> .inl ⟨rfl,rfl⟩,rfl⟩ ?_
 rintro m σ H' ⟨fs,ss,np,tp,o3,rfl,sH,hn,ht,fr,ne,hf,mem,len,sp,rfl⟩;refine !⟨(zq rfl),λep R=> ?_⟩;refine zc (upd _ ep _) rfl R λH2 r x2=> ?_
 refine⟨tp,ep,_,rfl,rfl,SqL.of (r _ _ ht),SqL.of x2,!?_⟩;have s2:=sH.trans r;by_cases aq:fs= []
 ·subst aq;refine ifF (by rfl) ?_;exact !(q np ss H2 s2 (r _ _ hn) (λs=>by rw [mem s];simp) (by simpa [yB]using len) λa b e=>(sp a b e).elim (λz=>by cases z.1) (λz=>z.2))
 ·obtain⟨gs,⟨D,d⟩,rfl⟩:=z3J aq;refine ifT (by simp) ?_;refine⟨_,λσ' H' z=>z,?_⟩;have U:=r _ _ ht;have gu:=r _ _ hn;have hg:zI H d D:=hf (D,d) (by simp);have cO:∀g∈gs,zI H g.2 g.1:=λg h=>hf g (by simp [h])
  have e1:((gs ++ [(D,d)]).map (·.1))=gs.map (·.1) ++ [D]:=by rw [wC];rfl
  rw [e1]at U;rw [z0Z]at len;replace len:ss.length + 2 * (yB gs + d.size)<=2 * c.size:=len;have xZ:=z4b gs;refine !⟨.inl ⟨rfl,_,SqL.of U⟩,tp,ex2 rfl rfl ⟨U,z1V _ _,?_⟩⟩;rw [w00];have n:zz H (upd H2 tp (.lst (gs.map (·.1)))):=s2.put fr;have I:upd H2 tp (.lst (gs.map (·.1))) tp=some (.lst (gs.map (·.1))):=zj;have C:upd H2 tp (.lst (gs.map (·.1))) np=some (.lst (ss.map V.str)):=by rw [zn ne];exact gu
  generalize upd H2 tp (.lst (gs.map (·.1)))=H3 at n I C ⊢;rcases z7s hg with⟨p,wd,a,b,rfl,hp,aQ,ec⟩ | ⟨p,wd,ks,rfl,hp,aQ,oY,fI,xj,dN,dA⟩
  ·refine !(zg (n _ _ hp) zD ⟨(zq rfl),λlp N=> ?_⟩);refine zc (upd _ lp _) rfl N λH4 u O=> ?_
   refine⟨lp,!⟨.inl (SqL.of O),rfl,rfl,!?_⟩⟩;refine ifT aQ ?_;have Y:=n.trans u;refine !(!(!⟨p,!⟨SqT.of (Y _ _ hp),z39 _ _,λt ht=> ?_⟩⟩));rw [z3b];refine zc (upd _ t _) rfl ht λH5 X J=> ?_
   refine⟨t,rfl,⟨_,SqT.of J⟩,?_⟩;have la:=z81 a;have lb:=z81 b;refine z6P (xs:= [a.v,b.v]) (λi ys H'=>H'=H5/\ys=(([a,b].take i).flatMap Side.cols).map V.str) ⟨rfl,rfl⟩ ?_ ?_ ?_
   ·rintro i ys H' hi ⟨rfl,rfl⟩;refine⟨SqT.of J,zG ?_⟩;rcases i with _ | _ | i <;> simp <;> lia
   ·rintro i x ys H' hi ⟨rfl,rfl⟩;obtain⟨sd,nO,rfl⟩:∃sd,[a,b][i]? =some sd/\x=sd.v:=by
     rcases i with _ | _ | i
     ·exact⟨a,rfl,(Option.some.inj hi).symm⟩
     ·exact⟨b,rfl,(Option.some.inj hi).symm⟩
     ·cases hi
    have ek: [a,b].take (i + 1)= [a,b].take i ++ [sd]:=by rw [q9,nO];rfl
    rw [ek,w0H,wC];cases sd with
    | nm m=>
     refine !⟨_,_,_,!⟨TyOf.str m,jZ,!?_⟩⟩;refine z7U ?_;exact !⟨rfl,rfl⟩
    | nu m=>
     refine !⟨_,_,_,!⟨TyOf.int m,z1O,!?_⟩⟩;refine z7H ?_;exact⟨rfl,(Qb _).symm⟩
   ·rintro ys H' ⟨rfl,rfl⟩ cp aI;refine zc (upd _ cp _) rfl aI λH6 L G=> ?_
    have e6:([a,b].take [a.v,b.v].length).flatMap Side.cols=d.cols:=by rw [ec];simp
    rw [e6]at G;have lc:d.cols.length<=2:=by rw [ec,wb];lia
    have z3:=d.size_pos;have o:=u.trans (X.trans L);refine⟨np,cp,ex2 rfl rfl ⟨o _ _ C,G,ja (by rw [w9,w9];lia),λl hl=> ?_⟩⟩;refine zc (upd _ l _) rfl hl λH7 S B=> ?_
    have y:=o.trans S;have lt:l≠tp:=λz=>by rw [z,o _ _ I]at hl;cases hl
    rw [<-wC]at B;refine⟨yB gs,by rw [z0Z];show _ < yB gs + d.size;lia,gs,ss ++ d.cols,l,tp,_,rfl,n.trans y,B,y _ _ I,fr,lt,cO,λs=> ?_,by rw [wb];lia,λa' b' e=> ?_,rfl⟩
    ·rw [mem s,wx];constructor
     ·rintro(h | ⟨g,hg,h⟩)
      ·exact .inl (.inl h)
      ·rcases wx.mp hg with hg | hg
       ·exact .inr ⟨g,hg,h⟩
       ·rw [wu.mp hg]at h;exact .inl (.inr h)
     ·rintro((h | h) | ⟨g,hg,h⟩)
      ·exact .inl h
      ·exact .inr ⟨(V.ref p,d),by simp,h⟩
      ·exact .inr ⟨g,qe _ hg,h⟩
    ·rcases sp a' b' e with⟨z1,z2⟩ | ⟨z1,_⟩
     ·cases gs with
      | nil=>cases z1;exact .inr ⟨rfl,by rw [z2];rfl⟩
      | cons g gs=>simp at z1
     ·simp at z1
  ·refine !(zg (n _ _ hp) zD ⟨(zq rfl),λlp N=> ?_⟩);refine zc (upd _ lp _) rfl N λH4 u O=> ?_
   refine⟨lp,!⟨.inl (SqL.of O),rfl,rfl,!?_⟩⟩;refine ifF aQ ?_;have Y:=n.trans u;refine !(!(!⟨p,!⟨SqT.of (Y _ _ hp),z39 _ _,λt ht=> ?_⟩⟩));rw [z3b];refine zc (upd _ t _) rfl ht λH5 X J=> ?_
   refine⟨t,!⟨.inr (SqT.of J),λl hl=> ?_⟩⟩;refine zc (upd _ l _) rfl hl λH6 L G=> ?_
   have o:=u.trans (X.trans L);refine⟨tp,l,ex2 rfl rfl ⟨o _ _ I,G,ja (by rw [w9,w9];lia),λZ j=> ?_⟩⟩;refine zc (upd _ Z _) rfl j λH7 S B=> ?_
   have y:=o.trans S;have lt:np≠Z:=λz=>by rw [<-z,o _ _ C]at j;cases j
   rw [<-wC]at B;refine⟨yB (gs ++ ks),by rw [z0Z,z78];show _ < yB gs + d.size;lia,gs ++ ks,ss,np,Z,_,rfl,n.trans y,y _ _ C,B,(n.trans o).free j,lt,λg hg=>(wx.mp hg).elim (cO g) (oY g),λs=> ?_,by rw [z78];lia,λa' b' e=> ?_,rfl⟩
   ·rw [mem s];constructor
    ·rintro(h | ⟨g,hg,h⟩)
     ·exact .inl h
     ·rcases wx.mp hg with hg | hg
      ·exact .inr ⟨g,qe _ hg,h⟩
      ·rw [wu.mp hg]at h;obtain⟨k,hk,h⟩:=(fI s).mp h;exact .inr ⟨k,wF _ hk,h⟩
    ·rintro(h | ⟨g,hg,h⟩)
     ·exact .inl h
     ·rcases wx.mp hg with hg | hg
      ·exact .inr ⟨g,qe _ hg,h⟩
      ·exact .inr ⟨(V.ref p,d),by simp,(fI s).mpr ⟨g,hg,h⟩⟩
   ·rcases sp a' b' e with⟨z1,z2⟩ | ⟨z1,_⟩
    ·cases gs with
     | nil=>cases z1;exact absurd e (dA a' b')
     | cons g gs=>simp at z1
    ·simp at z1
def z7D(H:Hp)(xs:List V)(o:Option Qn):Prop:=(o=none/\xs= [])\/∃q v,o=some q/\xs= [v]/\QAt H q v
def zcx(mk:Qn->Qn->Qn)(ip:Bool):Prop:=mk= .pair/\ip=true\/∃x y,mk= .join x y/\ip=false
theorem zb8{a b:Qn}{v:V}(hm:zcx mk ip)(hq:QAt H (mk a b) v):∃(p:Addr) (pre:List V) (x y:V),v= .ref p/\H p=some (.tup (pre ++ [x,y]))/\QAt H a x/\QAt H b y/\atI (pre ++ [x,y]) (-2)=some x/\atI (pre ++ [x,y]) (-1)=some y/\
  z0A (pre ++ [x,y]) none (some (-2))=pre/\z0A (pre ++ [x,y]) none (some (-1))=pre ++ [x]/\(∀j:Int,j= -2\/j= -1->¬(HT.sIx (pre ++ [x,y]).length 0 none=0/\HT.sIx (pre ++ [x,y]).length (pre ++ [x,y]).length (some j)=(pre ++ [x,y]).length))/\
  atI (pre ++ [x,y]) 0=some (.str (if ip=true then "pair" else "join"))/\(ip=true->pre= [.str "pair"])/\pre.length<=3/\pre≠ []/\∀(H':Hp) (p':Addr) (c d:V) (a' b':Qn),H' p'=some (.tup (pre ++ [c,d]))->QAt H' a' c->QAt H' b' d->QAt H' (mk a' b') (.ref p'):=by
 rcases hm with⟨rfl,rfl⟩ | ⟨u,w,rfl,rfl⟩
 ·obtain⟨p,x,y,rfl,h1,h2,l⟩:=hq;refine⟨p,[.str "pair"],x,y,rfl,h1,h2,l,rfl,rfl,rfl,rfl,λj f=> ?_,rfl,λ_=>rfl,by decide,by simp,λH' p' c d a' b' e h i=>⟨p',c,d,rfl,e,h,i⟩⟩;rcases f with rfl | rfl
  ·show¬(HT.sIx 3 0 none=0/\HT.sIx 3 3 (some (-2))=3);decide
  ·show¬(HT.sIx 3 0 none=0/\HT.sIx 3 3 (some (-1))=3);decide
 ·obtain⟨p,x,y,rfl,h1,h2,l⟩:=hq;refine⟨p,[.str "join",.str u,.str w],x,y,rfl,h1,h2,l,rfl,rfl,rfl,rfl,λj f=> ?_,rfl,nofun,by simp,by simp,λH' p' c d a' b' e h i=>⟨p',c,d,rfl,e,h,i⟩⟩;rcases f with rfl | rfl
  ·show¬(HT.sIx 5 0 none=0/\HT.sIx 5 5 (some (-2))=5);decide
  ·show¬(HT.sIx 5 0 none=0/\HT.sIx 5 5 (some (-1))=5);decide
theorem z0Y{a b:Qn}(h1:¬jU c.cols (za th a)=true)(h2:¬jU c.cols (za th b)=true)(h:ip=false\/∀x y,c≠ .same (.nm x) (.nm y)):jz th c mk ip a b=none:=by
 unfold jz;rw [wM h1,wM h2];split
 ·rcases h with h | h
  ·cases h
  ·exact absurd rfl (h _ _)
 ·rfl
theorem z7w{a b:Qn}{s1 s2:Side}(ok:(Cond.same s1 s2).ok (za th a ++ za th b))(h1:¬jU (Cond.same s1 s2).cols (za th a)=true)(h2:¬jU (Cond.same s1 s2).cols (za th b)=true):
  ∃x y u w,s1= .nm x/\s2= .nm y/\(s1.cols ++ s2.cols).filter (λs=>decide (s∈za th a))= [u]/\(s1.cols ++ s2.cols).filter (λs=> not (decide (s∈za th a)))= [w]/\yG th x y a b= .join u w a b:=by
 rw [jv]at h1 h2;have one:∀{z:Str},z∈za th a ++ za th b->(Cond.same s1 s2).cols= [z]->False:=λ{z} hz e=>by
  rw [e]at h1 h2;rcases wx.mp hz with h | h
  ·exact h1 (by simpa using h)
  ·exact h2 (by simpa using h)
 cases s1 with
 | nu i=>
  cases s2 with
  | nu j=>exact absurd (by simp [Cond.cols,Side.cols]) h1
  | nm y=>exact(one (show y∈_ from ok.2) rfl).elim
 | nm x=>
  cases s2 with
  | nu j=>exact(one (show x∈_ from ok.1) rfl).elim
  | nm y=>
   have d:=wx.mp (show x∈_ from ok.1);have f:=wx.mp (show y∈_ from ok.2);simp only [Cond.cols,Side.cols,wx,wu,forall_eq_or_imp,forall_eq]at h1 h2;by_cases hxa:x∈za th a
   ·have c:y∉za th a:=λz=>h1 ⟨hxa,z⟩
    exact⟨x,y,x,y,rfl,rfl,by simp [Side.cols,hxa,c],by simp [Side.cols,hxa,c],by unfold yG;rw [wU hxa]⟩
   ·have c:y∈za th a:=f.resolve_right λz=>h2 ⟨d.resolve_left hxa,z⟩
    exact⟨x,y,y,x,rfl,rfl,by simp [Side.cols,hxa,c],by simp [Side.cols,hxa,c],by unfold yG;rw [wM hxa]⟩
theorem z83{z:V}(hi:(ss.map V.str)[i]? =some z):∃s,ss[i]? =some s/\z= .str s:=by
 rw [wO]at hi;cases hg:ss[i]? with
 | none=>rw [hg]at hi;cases hi
 | some s=>rw [hg]at hi;exact⟨s,rfl,(Option.some.inj hi).symm⟩
inductive spParted (K:W.Frag) (vs:List V) (H:Hp) (Q:VK) (E:XK):Prop
 | mk:∀th tr c mk ip a b vc v tp,vs= [vc,v,.ref tp]->TabOk th tr->jE th tr H tp->zI H c vc->c.size<=20->zcx mk ip->c.ok (za th a ++ za th b)->QAt H (mk a b) v->wfQ th a->(∀n∈za th a,n∉za th b)->depth a<=160->(∀(l:Addr) (xs:List V) (H':Hp),zz H H'->H' l=some (.lst xs)->z7D H' xs (jz th c mk ip a b)->Q (.ref l) H')->spParted K vs H Q E
theorem yD:FnScope ["_law_condition","_law_inner","_law_tables","_law_left","_law_names","_law_ahead","_law_other"] ["_law_condition","_law_inner","_law_tables"] (zm yP):=by walk_at "s"
theorem z4r(F:Fun K "_law_parted" "_law_parted" yP f fd)(T:Txt K mg)(d:Kn P w K mg base 160 "_law_headed_by" ["_law_asked","_law_tables"] (spHdBy K 160))(o:Kn P w K mg base 1 "_law_named" ["_law_condition"] (spNamed K)):FnOk P w K mg base CX0 161 f fd ["_law_condition","_law_inner","_law_tables"] (spParted K):=by
 refine F.okB yD (λvs H Q E h=> ?_) (λvs H Q E h=> ?_)
 ·obtain⟨th,tr,c,mk,ip,a,b,vc,v,tp,rfl,_⟩:=h
  rfl
 obtain⟨th,tr,c,mk,ip,a,b,vc,v,tp,rfl,TT,h4,hc,hz,hm,ok,hq,wf,dj,hd,fin⟩:=h;obtain⟨p,pre,x,y,rfl,hp,ha,hb,i2,i1,c2,c1,nw,i0,pU,A0,pV,ud⟩:=zb8 hm hq;have wh:=jK TT wf;intro ac A outer sh hr;have hu:=z1u hr;refine⟨_,(ze (kD (i:=3) yD.nd rfl (QH rfl) (zV d hr.m (zl (ixT v1 (k8 yl zb)) (zf v2 zd))))
  (ze (seT 4 yD (zV o hr.m (zf v0 zd)))
  (ze (jH (j:=5) rfl yD.nd rfl (QV rfl) (CompSc.of (sx:=zm yP) (NX:= ["_law_condition","_law_inner","_law_tables","_law_left","_law_names","_law_ahead","_law_other"]) (fr:= ["_law_left"]) (ix:= [3]) rfl rfl (by decide +kernel)) (jb v4) (λ_ _ _ _ _ _=>(z0F (jR (z4C (K:=K) rfl) v0 v1 (by with_unfolding_all rfl)))) (λ_ _ _ _ _ _=>v0))
  (ze (zF (cmT zK (leN T.len (zf v5 zd)) (leN T.len (zf v4 zd)))
   (zh (zt (zx (yo (zr z3Q (j8 z0R v1 jx (jn (k8 yl zb))) (zC (zH (zC (zo zi (zf v0 (zl (ixT v1 (k8 yl zb)) zd)))) (zl (ixT v1 (k8 yl zb)) zd)))) zd))))
   zu)
  (ze (zF (cmT (z1L hu) v5 (zx zd))
   (zh (zt (zx (yo (zr z3Q (j8 z0R v1 jx (jn (k8 yl zb))) (zC (zH (zC (zo zi (zf v0 (zl (ixT v1 (k8 yl zb)) zd)))) zd))) zd))))
   zu)
  (ze (zF (PW.pt (z5n (cmT zK (ixT v1 zb) zi) (z3S (cmT z14 (ixT v0 zb) zi))))
   (zh (zt (zx zd)))
   zu)
  (ze (jH (j:=6) rfl yD.nd rfl (QV rfl) (CompSc.of (sx:=zm yP) (NX:= ["_law_condition","_law_inner","_law_tables","_law_left","_law_names","_law_ahead","_law_other"]) (fr:= ["_law_left"]) (ix:= [3]) rfl rfl (by decide +kernel)) (jb v4) (λ_ _ _ _ _ _=>(z0F (jR (z4M (K:=K) rfl) v0 v1 (by with_unfolding_all rfl)))) (λ_ _ _ _ _ _=>v0))
  (zh (zt (zx (zH (zC (zo zi (zl (ixL v5 zb) (zl (ixL (pv 6) zb) (zl (ixT v1 zb) (zl (ixT v1 zb) zd)))))) zd))))))))))),?_⟩
 generalize hK0:K=K1
 revert K1
 refine jo (by walk_at "cl") ?_;refine !(!(zg hp i2 (!⟨th,tr,a,x,tp,rfl,TT,h4,ha,wf,hd,λlp H1 n1 x1=> ?_⟩)));refine !⟨c,vc,rfl,hc.mono λb xs z=>n1 _ _ z,by lia,λnp ss H2 n2 M Z hlen L=> ?_⟩;have ue:=n2 _ _ x1;refine !⟨np,rfl,⟨_,SqL.of M⟩,?_⟩;refine kF (xs:=ss.map V.str) (λi ys H'=>H'=H2/\ys=((ss.take i).filter λs=>decide (s∈za th a)).map V.str) ⟨rfl,rfl⟩ ?_ ?_ ?_
 ·rintro i ys H' hi ⟨rfl,rfl⟩;refine⟨SqL.of M,zG ?_⟩;have:=qz (λs=>decide (s∈za th a)) (ss.take i);rw [w9];rw [wS]at this
  lia
 ·rintro i z ys H' hi ⟨rfl,rfl⟩;obtain⟨s,hs,rfl⟩:=z83 hi;have ek:ss.take (i + 1)=ss.take i ++ [s]:=by rw [q9,hs];rfl
  rw [ek,w0r,wC];refine !(!⟨lp,!⟨.inl (SqL.of ue),rfl,jd _,!?_⟩⟩);by_cases e:s∈za th a
  ·refine ifT (by rw [z1W];exact wN e) ?_;exact !⟨rfl,by rw [qN (by simpa using e)];rfl⟩
  ·refine ifF (by rw [z1W];exact wI e) ?_;exact⟨rfl,by rw [w03 (by simpa using e)];exact(Qb _).symm⟩
 rintro ys H' ⟨rfl,rfl⟩ ap A2;rw [w9,qB];refine zc (upd _ ap _) rfl A2 λH3 n3 x3=> ?_
 have B:=n1.trans (n2.trans n3);have X:=B _ _ hp;have c3:zI H3 c vc:=hc.mono λb xs z=>B _ _ z
 refine !⟨ap,!⟨.inl (SqL.of x3),!⟨np,!⟨.inl (SqL.of (n3 _ _ M)),rfl,!?_⟩⟩⟩⟩;have hZ:=qz (λs=>decide (s∈za th a)) ss;by_cases bf:jU c.cols (za th a)=true
 ·have pW:ss.filter (λs=>decide (s∈za th a))=ss:=w19.mpr λs hs=>wN (jv.mp bf s ((Z s).mp hs))
  refine ifT (by rw [pW];exact wN rfl) ?_;have ep:jz th c mk ip a b=some (mk (.pick c a) b):=by unfold jz;rw [wU bf]
  refine !(!(!⟨p,!⟨SqT.of X,nw _ (.inl rfl),λt ht=> ?_⟩⟩));refine zc (upd _ t _) rfl ht λU q x4=> ?_
  refine !(!(!(zg (q _ _ X) i2 ⟨(zq rfl),λkp eF=> ?_⟩)));refine zc (upd _ kp _) rfl eF λC n r=> ?_
  refine !(!(zg ((q.trans n) _ _ X) i1 ⟨(zq rfl),λup J=> ?_⟩));refine zc (upd _ up _) rfl J λH6 G N=> ?_
  have A3:U t=some (.tup pre):=x4.trans (by rw [c2]);refine⟨t,up,_,_,rfl,rfl,SqT.of ((n.trans G) _ _ A3),SqT.of N,pV,ja (by show pre.length + 2<=_;lia),(λz=>by cases z),λ_ fp bT=> ?_⟩;refine zc (upd _ fp _) rfl bT λH7 I S=> ?_
  refine⟨(zq rfl),λl hl=> ?_⟩;refine zc (upd _ l _) rfl hl λH8 n8 x8=> ?_
  have bA:=G.trans (I.trans n8);have gO:=q.trans (n.trans bA);refine fin l _ H8 (B.trans gO) x8 (.inr ⟨_,_,ep,rfl,ud _ _ _ _ _ _ (n8 _ _ S) ⟨kp,_,_,rfl,bA _ _ r,c3.mono λb xs z=>gO _ _ z,ha.same (B.trans gO)⟩ (hb.same (B.trans gO))⟩)
 ·have A4:¬(ss.filter (λs=>decide (s∈za th a))).length=ss.length:=λz=>bf (jv.mpr λs hs=>by
   have:=w19.mp (List.filter_sublist.eq_of_length z) s ((Z s).mpr hs);exact qi this)
  refine ifF (wI λz=>A4 ?_) ?_
  ·injection z with z
   rw [w9,w9]at z
   exact_mod_cast z
  refine !⟨(zq rfl),λep ae=> ?_⟩;refine zc (upd _ ep _) rfl ae λU q x4=> ?_
  have pX:=q _ _ x3;have R:=q _ _ X;refine⟨ap,ep,_,rfl,rfl,SqL.of pX,SqL.of x4,!?_⟩;by_cases bb:jU c.cols (za th b)=true
  ·have pW:ss.filter (λs=>decide (s∈za th a))= []:=w0i.mpr λs hs z=>dj s (qi z) (jv.mp bb s ((Z s).mp hs))
   refine ifT (by rw [pW];rfl) ?_;have ep:jz th c mk ip a b=some (mk a (.pick c b)):=by unfold jz;rw [wM bf,wU bb]
   refine !(!(!⟨p,!⟨SqT.of R,nw _ (.inr rfl),λt ht=> ?_⟩⟩));refine zc (upd _ t _) rfl ht λC n r=> ?_
   refine !(!(!(zg (n _ _ R) i1 ⟨(zq rfl),λkp eF=> ?_⟩)));refine zc (upd _ kp _) rfl eF λH6 G N=> ?_
   refine⟨(zq rfl),λup J=> ?_⟩;refine zc (upd _ up _) rfl J λH7 I S=> ?_
   have A5:C t=some (.tup (pre ++ [x])):=r.trans (by rw [c1]);refine⟨t,up,_,_,rfl,rfl,SqT.of ((G.trans I) _ _ A5),SqT.of S,by simp,ja (by rw [wb];show pre.length + 1 + 1<=_;lia),(λz=>by cases z),λ_ fp bT=> ?_⟩;refine zc (upd _ fp _) rfl bT λH8 n8 x8=> ?_
   refine⟨(zq rfl),λl hl=> ?_⟩;refine zc (upd _ l _) rfl hl λH9 n9 x9=> ?_
   have uf:=I.trans (n8.trans n9);have gP:=q.trans (n.trans (G.trans uf));have A6:H8 fp=some (.tup (pre ++ [x,.ref kp])):=x8.trans (by rw [Q9];rfl);refine fin l _ H9 (B.trans gP) x9 (.inr ⟨_,_,ep,rfl,ud _ _ _ _ _ _ (n9 _ _ A6) (ha.same (B.trans gP)) ⟨kp,_,_,rfl,uf _ _ N,c3.mono λb xs z=>gP _ _ z,hb.same (B.trans gP)⟩⟩)
  ·obtain⟨Y,ug,A7⟩:∃s,s∈c.cols/\s∉za th b:=by
    refine Classical.byContradiction λz=>bb (jv.mpr λs hs=>Classical.byContradiction λy=>z ⟨s,hs,y⟩)
   have A8:Y∈za th a:=(wx.mp (z1a ok Y ug)).resolve_right A7;have pY:ss.filter (λs=>decide (s∈za th a))≠ []:=λz=>by
    have:=w0i.mp z Y ((Z Y).mpr ug);exact this (wN A8)
   refine ifF (by cases hh:ss.filter (λs=>decide (s∈za th a))with | nil=>exact absurd hh pY | cons x xs=>rfl) ?_;refine !(zg R i0 ⟨rfl,!?_⟩);cases ip with
   | false=>
    refine ifT (by decide +kernel) ?_;refine ifT rfl ?_;refine⟨(zq rfl),λl hl=> ?_⟩;refine zc (upd _ l _) rfl hl λC n r=> ?_
    exact fin l [] C (B.trans (q.trans n)) r (.inl ⟨z0Y bf bb (.inl rfl),rfl⟩)
   | true=>
    refine ifF (by decide +kernel) ?_;obtain rfl:=pU rfl;have O:zI U c vc:=c3.mono λb xs z=>q _ _ z
    cases c with
    | same s1 s2=>
     obtain⟨cp,rfl,D⟩:=O;refine !(zg D zD ⟨rfl,!?_⟩);refine ifF (by decide +kernel) ?_;have es:ss=s1.cols ++ s2.cols:=L s1 s2 rfl;obtain⟨x0,y0,u,w0,rfl,rfl,fa,fo,ej⟩:=z7w ok bf bb;rw [<-es]at fa fo;have ep:jz th (.same (.nm x0) (.nm y0)) mk true a b=some (.join u w0 a b):=by
      unfold jz;rw [wM bf,wM bb,<-ej]
     have mL:=n3.trans q;have uh:=mL _ _ M;refine !⟨np,rfl,⟨_,SqL.of uh⟩,?_⟩;refine kF (xs:=ss.map V.str) (λi ys H'=>H'=U/\ys=((ss.take i).filter λs=> not (decide (s∈za th a))).map V.str) ⟨rfl,rfl⟩ ?_ ?_ ?_
     ·rintro i ys H' hi ⟨rfl,rfl⟩;refine⟨SqL.of uh,zG ?_⟩;have:=qz (λs=> not (decide (s∈za th a))) (ss.take i);rw [w9];rw [wS]at this
      lia
     ·rintro i z ys H' hi ⟨rfl,rfl⟩;obtain⟨s,hs,rfl⟩:=z83 hi;have ek:ss.take (i + 1)=ss.take i ++ [s]:=by rw [q9,hs];rfl
      rw [ek,w0r,wC];refine !(!⟨lp,!⟨.inl (SqL.of (mL _ _ ue)),rfl,jd _,!?_⟩⟩);by_cases e:s∈za th a
      ·refine ifF (by show(not (inV _ _))=false;rw [z1W,wN e];rfl) ?_;exact⟨rfl,by rw [w03 (by simpa using e)];exact(Qb _).symm⟩
      ·refine ifT (by show(not (inV _ _))=true;rw [z1W,wI e];rfl) ?_;exact !⟨rfl,by rw [qN (by simpa using e)];rfl⟩
     rintro ys H' ⟨rfl,rfl⟩ op ml;rw [w9,qB,fo];refine zc (upd _ op _) rfl ml λC n r=> ?_
     rw [fa]at pX;refine !(zw (n _ _ pX) zD (!(zw r zD (!(zg (n _ _ R) jc (!(zg (n _ _ R) ji ⟨(zq rfl),λjp ad=> ?_⟩)))))));refine zc (upd _ jp _) rfl ad λH6 G N=> ?_
     refine⟨(zq rfl),λl hl=> ?_⟩;refine zc (upd _ l _) rfl hl λH7 I S=> ?_
     have aW:=B.trans (q.trans (n.trans (G.trans I)));exact fin l _ H7 aW S (.inr ⟨_,_,ep,rfl,jp,x,y,rfl,I _ _ N,ha.same aW,hb.same aW⟩)
    | less s1 s2=>
     obtain⟨cp,rfl,D⟩:=O;refine !(zg D zD ⟨rfl,!?_⟩);refine ifT (by decide +kernel) ?_;refine⟨(zq rfl),λl hl=> ?_⟩;refine zc (upd _ l _) rfl hl λC n r=> ?_
     exact fin l [] C (B.trans (q.trans n)) r (.inl ⟨z0Y bf bb (.inr λ_ _=>nofun),rfl⟩)
    | no c1=>
     obtain⟨cp,x1,rfl,D,_⟩:=O;refine !(zg D zD ⟨rfl,!?_⟩);refine ifT (by decide +kernel) ?_;refine⟨(zq rfl),λl hl=> ?_⟩;refine zc (upd _ l _) rfl hl λC n r=> ?_
     exact fin l [] C (B.trans (q.trans n)) r (.inl ⟨z0Y bf bb (.inr λ_ _=>nofun),rfl⟩)
    | an c1 c2=>
     obtain⟨cp,x1,M,rfl,D,_⟩:=O;refine !(zg D zD ⟨rfl,!?_⟩);refine ifT (by decide +kernel) ?_;refine⟨(zq rfl),λl hl=> ?_⟩;refine zc (upd _ l _) rfl hl λC n r=> ?_
     exact fin l [] C (B.trans (q.trans n)) r (.inl ⟨z0Y bf bb (.inr λ_ _=>nofun),rfl⟩)
    | or c1 c2=>
     obtain⟨cp,x1,M,rfl,D,_⟩:=O;refine !(zg D zD ⟨rfl,!?_⟩);refine ifT (by decide +kernel) ?_;refine⟨(zq rfl),λl hl=> ?_⟩;refine zc (upd _ l _) rfl hl λC n r=> ?_
     exact fin l [] C (B.trans (q.trans n)) r (.inl ⟨z0Y bf bb (.inr λ_ _=>nofun),rfl⟩)
theorem z4D{v:V}(h:QAt H q v):∃p xs,v= .ref p/\H p=some (.tup (.str (j7 q) :: xs)):=by
 cases q with
 | table | first | group | sort=>obtain⟨p,h⟩:=h;first | exact⟨p,_,h.1,h.2⟩ | (obtain⟨y,e,h,_⟩:=h;exact⟨p,_,e,h⟩)
 | pick | cols | pair | join | both=>obtain⟨p,x,y,e,h,_⟩:=h;exact⟨p,_,e,h⟩
theorem zes{v:V}(h:QAt H q v):∃p x xs,v= .ref p/\H p=some (.tup (.str (j7 q) :: x :: xs))/\(yM x=true\/∃p' zs,x= .ref p'/\H p'=some (.tup zs)):=by
 cases q with
 | table n=>obtain⟨p,e,h⟩:=h;exact⟨p,_,_,e,h,.inl rfl⟩
 | pick c r=>obtain⟨p,x,y,e,h,h2,_⟩:=h;obtain⟨p',zs,d,h'⟩:=h2.ref;exact⟨p,_,_,e,h,.inr ⟨p',zs,d,h'⟩⟩
 | cols ns r=>obtain⟨p,x,y,e,h,h2,_⟩:=h;exact⟨p,_,_,e,h,.inr ⟨_,_,rfl,h2⟩⟩
 | pair a b=>obtain⟨p,x,y,e,h,h2,_⟩:=h;obtain⟨p',zs,d,h'⟩:=z4D h2;exact⟨p,_,_,e,h,.inr ⟨p',_,d,h'⟩⟩
 | both a b=>obtain⟨p,x,y,e,h,h2,_⟩:=h;obtain⟨p',zs,d,h'⟩:=z4D h2;exact⟨p,_,_,e,h,.inr ⟨p',_,d,h'⟩⟩
 | join u w a b=>obtain⟨p,x,y,e,h,_⟩:=h;exact⟨p,_,_,e,h,.inl rfl⟩
 | first n r=>obtain⟨p,y,e,h,_⟩:=h;exact⟨p,_,_,e,h,.inl rfl⟩
 | group a b n s r=>obtain⟨p,y,e,h,_⟩:=h;exact⟨p,_,_,e,h,.inl rfl⟩
 | sort a r=>obtain⟨p,y,e,h,_⟩:=h;exact⟨p,_,_,e,h,.inl rfl⟩
theorem sl2{p:Addr}{w x:V}{zs:List V}{Q:VK}(h:H p=some (.tup (w :: x :: zs)))(q:∀(t:Addr) (H2:Hp),zz H H2->H2 t=some (.tup [w,x])->Q (.ref t) H2):zdt K (.ref p) none (some 2) H Q\/zdu K (.ref p) none (some 2) H Q:=by
 cases zs with
 | nil=>exact .inr ⟨p,_,rfl,SqT.of h,by show HT.sIx 2 0 none=0/\HT.sIx 2 2 (some 2)=2;decide,q p H (zz.refl _) h⟩
 | cons z zs=>
  have a:HT.sIx (w :: x :: z :: zs).length (w :: x :: z :: zs).length (some 2)=2:=by
   unfold HT.sIx;simp
   try lia
  have c:HT.sIx (w :: x :: z :: zs).length 0 none=0:=rfl;refine .inl ⟨p,_,rfl,SqT.of h,λe=> ?_,λt ht=> ?_⟩
  ·have:=e.2;rw [a]at this;simp at this
  ·have b:z0A (w :: x :: z :: zs) none (some 2)= [w,x]:=by
    unfold z0A;rw [a,c]
    rfl
   rw [b];exact q t _ (zJ ht _) zj
inductive spFolded (K:W.Frag) (vs:List V) (H:Hp) (Q:VK) (E:XK):Prop
 | mk:∀th q v,vs= [v]->QAt H q v->(∀c r,q≠ .pick c r)->(∀(l:Addr) (xs:List V) (H':Hp),zz H H'->H' l=some (.lst xs)->z7D H' xs (yw th q)->Q (.ref l) H')->spFolded K vs H Q E
theorem z0r:FnScope ["_law_asked","_law_word","_law_inner"] ["_law_asked"] (zm z0V):=by walk_at "s"
theorem z4p(F:Fun K "_law_folded" "_law_folded" z0V f fd)(T:Txt K mg):FnOk P w K mg base CX0 1 f fd ["_law_asked"] (spFolded K):=by
 refine F.okB z0r (λvs H Q E h=> ?_) (λvs H Q E h=> ?_)
 ·obtain⟨th,q,v,rfl,_⟩:=h
  rfl
 obtain⟨th,q,v,rfl,hq,np,fin⟩:=h;have nil:∀{H1:Hp},zz H H1->yw th q=none->∀l,H1 l=none->Q (.ref l) (upd H1 l (.lst [])):=λs e l hl=>fin l [] _ (s.trans (zJ hl _)) zj (.inl ⟨e,rfl⟩)
 intro ac A outer sh hr;have hu:=z1u hr;refine⟨_,(ze (seT 1 z0r (ixT v0 zb))
  (ze (zF (jR yH v1 (zx (zo zi (zo zi (zo zi zd)))) (by with_unfolding_all rfl))
   (zh (zt (zx zd)))
   zu)
  (ze (seT 2 z0r (ixT v0 zb))
  (ze (zF (PW.pt (z0d (cmT zK v1 zi) (kX (cmT zK (ixT v2 zb) zi))))
   (zh (zt (zx (zH (zC (zo zi (zl (ixT v0 zb) (zl (ixT v2 zb) zd)))) zd))))
   zu)
  (ze (zF (PW.pt (z0d (cmT zK v1 zi) (kX (cmT (z76 (K:=K) rfl hu) (j8 z8o v2 jx (jn zb)) (j8 z0R v0 jx (jn zb))))))
   (zh (zt (zx (zf v2 zd))))
   zu)
  (ze (zF (PW.pt (z0d (cmT zK v1 zi) (kX (cmT zK (ixT v2 zb) zi))))
   (zh (zt (zx (zH (zC (zo zi (zT (zQ (z59 rfl) rfl T.min PyProof.Rows.boot_min (zl (ixT v0 zb) (zl (ixT v2 zb) zd))) (zl (ixT v2 zb) zd)))) zd))))
   zu)
  (ze (zF (PW.pt (z0d (cmT zK v1 zi) (kX (cmT zK (ixT v2 zb) zi))))
   (zh (zt (zx (zH (zC (zo zi (zl (ixT v2 zb) (zH (zC (zo zi (zl (ixT v0 zb) (zl (ixT v2 zb) zd)))) zd)))) zd))))
   zu)
  (zh (zt (zx zd)))))))))),?_⟩
 generalize hK0:K=K1
 revert K1
 refine jo (by walk_at "cl") ?_;cases q with
 | pick c r=>exact absurd rfl (np c r)
 | table m=>
  obtain⟨p,rfl,h1⟩:=hq;refine !(zg h1 zD (!⟨(zq rfl),λlp i=> ?_⟩));refine zc (upd _ lp _) rfl i λH1 d x1=> ?_
  refine⟨lp,!⟨.inl (SqL.of x1),rfl,rfl,!?_⟩⟩;refine ifT (by decide +kernel) ?_;exact⟨(zq rfl),nil d rfl⟩
 | pair a b=>
  obtain⟨p,x,y,rfl,h1,h2,j⟩:=hq;refine !(zg h1 zD (!⟨(zq rfl),λlp i=> ?_⟩));refine zc (upd _ lp _) rfl i λH1 d x1=> ?_
  refine⟨lp,!⟨.inl (SqL.of x1),rfl,rfl,!?_⟩⟩;refine ifT (by decide +kernel) ?_;exact⟨(zq rfl),nil d rfl⟩
 | both a b=>
  obtain⟨p,x,y,rfl,h1,h2,j⟩:=hq;refine !(zg h1 zD (!⟨(zq rfl),λlp i=> ?_⟩));refine zc (upd _ lp _) rfl i λH1 d x1=> ?_
  refine⟨lp,!⟨.inl (SqL.of x1),rfl,rfl,!?_⟩⟩;refine ifT (by decide +kernel) ?_;exact⟨(zq rfl),nil d rfl⟩
 | join u w0 a b=>
  obtain⟨p,x,y,rfl,h1,h2,j⟩:=hq;refine !(zg h1 zD (!⟨(zq rfl),λlp i=> ?_⟩));refine zc (upd _ lp _) rfl i λH1 d x1=> ?_
  refine⟨lp,!⟨.inl (SqL.of x1),rfl,rfl,!?_⟩⟩;refine ifT (by decide +kernel) ?_;exact⟨(zq rfl),nil d rfl⟩
 | group a b m s r=>
  obtain⟨p,y,rfl,h1,j⟩:=hq;refine !(zg h1 zD (!⟨(zq rfl),λlp i=> ?_⟩));refine zc (upd _ lp _) rfl i λH1 d x1=> ?_
  refine⟨lp,!⟨.inl (SqL.of x1),rfl,rfl,!?_⟩⟩;refine ifT (by decide +kernel) ?_;exact⟨(zq rfl),nil d rfl⟩
 | cols ns r=>
  obtain⟨p,x,y,rfl,h1,h2,j⟩:=hq;refine !(zg h1 zD (!⟨(zq rfl),λlp i=> ?_⟩));refine zc (upd _ lp _) rfl i λH1 d x1=> ?_
  refine⟨lp,!⟨.inl (SqL.of x1),rfl,rfl,!?_⟩⟩;refine ifF (by decide +kernel) ?_;refine !(zg (d _ _ h1) ji ?_);refine !⟨rfl,!?_⟩;refine ifT (z2J _) ?_;by_cases hw:j7 r="cols"
  ·obtain⟨ms,r,rfl⟩:=kP hw;obtain⟨R,x',S,rfl,n,Z,L⟩:=j;refine !(zg (d _ _ n) zD ⟨rfl,!?_⟩);refine ifT (z2J _) ?_;refine !(zg (d _ _ h1) jc (!(zg (d _ _ n) ji ⟨(zq rfl),λt ht=> ?_⟩)));refine zc (upd _ t _) rfl ht λH2 I D=> ?_
   refine⟨(zq rfl),λl hl=> ?_⟩;refine zc (upd _ l _) rfl hl λO o G=> ?_
   have B:=d.trans (I.trans o);exact fin l _ O B G (.inr ⟨.cols ns r,_,rfl,rfl,t,_,_,rfl,o _ _ D,B _ _ h2,L.same B⟩)
  ·obtain⟨R,zs,rfl,ci⟩:=z4D j;refine !(zg (d _ _ ci) zD ⟨rfl,!?_⟩);refine ifF (noS hw) ?_;refine !⟨rfl,!?_⟩;refine ifF (noS (by decide +kernel)) ?_;refine ifF rfl ?_;refine !⟨rfl,!?_⟩;refine ifF (noS (by decide +kernel)) ?_;refine ifF rfl ?_;refine !⟨rfl,!?_⟩;refine ifF (noS (by decide +kernel)) ?_;refine ifF rfl ?_;refine⟨(zq rfl),nil d ?_⟩;cases r <;> first | rfl | exact absurd rfl hw
 | first m r=>
  obtain⟨p,y,rfl,h1,j⟩:=hq;refine !(zg h1 zD (!⟨(zq rfl),λlp i=> ?_⟩));refine zc (upd _ lp _) rfl i λH1 d x1=> ?_
  refine⟨lp,!⟨.inl (SqL.of x1),rfl,rfl,!?_⟩⟩;refine ifF (by decide +kernel) ?_;refine !(zg (d _ _ h1) ji ?_);refine !⟨rfl,!?_⟩;refine ifF (noS (by decide +kernel)) ?_;refine ifF rfl ?_;refine !⟨rfl,!?_⟩;refine ifF (noS (by decide +kernel)) ?_;refine ifF rfl ?_;refine !⟨rfl,!?_⟩;refine ifT (z2J _) ?_;by_cases hw:j7 r="first"
  ·obtain⟨k,r,rfl⟩:=z0G hw;obtain⟨R,S,rfl,n,L⟩:=j;refine !(zg (d _ _ n) zD ⟨rfl,!?_⟩);refine ifT (z2J _) ?_;refine !(zg (d _ _ h1) jc (!(zg (d _ _ n) jc ⟨m,k,rfl,!(zg (d _ _ n) ji ⟨(zq rfl),λt ht=> ?_⟩)⟩)));refine zc (upd _ t _) rfl ht λH2 I D=> ?_
   refine⟨(zq rfl),λl hl=> ?_⟩;refine zc (upd _ l _) rfl hl λO o G=> ?_
   have B:=d.trans (I.trans o);have em:(if k < m then k else m)=min m k:=by rw [Int.min_def];split <;> split <;> lia
   rw [em]at D;exact fin l _ O B G (.inr ⟨.first (min m k) r,_,rfl,rfl,t,_,rfl,o _ _ D,L.same B⟩)
  ·obtain⟨Dj,Dk,C,dI⟩:=z4D j;subst C;refine !(zg (d _ _ dI) zD ⟨rfl,!?_⟩);refine ifF (noS hw) ?_;refine !⟨rfl,!?_⟩;refine ifT (z2J _) ?_;by_cases hc:j7 r="cols"
   ·obtain⟨ms,r,rfl⟩:=kP hc;obtain⟨R,x',S,Y,n,Z,L⟩:=j;cases Y;refine !(zg (d _ _ n) zD ⟨rfl,!?_⟩);refine ifT (z2J _) ?_;refine !(zg (d _ _ n) jc (!(zg (d _ _ h1) jc (!(zg (d _ _ n) ji ⟨(zq rfl),λg hg=> ?_⟩)))));refine zc (upd _ g _) rfl hg λH2 I D=> ?_
    refine⟨(zq rfl),λt ht=> ?_⟩;refine zc (upd _ t _) rfl ht λO o G=> ?_
    refine⟨(zq rfl),λl hl=> ?_⟩;refine zc (upd _ l _) rfl hl λU M X=> ?_
    have J:=d.trans (I.trans (o.trans M));exact fin l _ U J X (.inr ⟨.cols ms (.first m r),_,rfl,rfl,t,_,_,rfl,M _ _ G,J _ _ Z,g,_,rfl,(o.trans M) _ _ D,L.same J⟩)
   ·refine !(zg (d _ _ dI) zD ⟨rfl,!?_⟩);refine ifF (noS hc) ?_;refine⟨(zq rfl),nil d ?_⟩;cases r <;> first | rfl | exact absurd rfl hw | exact absurd rfl hc
 | sort a r=>
  obtain⟨p,y,rfl,h1,j⟩:=hq;refine !(zg h1 zD (!⟨(zq rfl),λlp i=> ?_⟩));refine zc (upd _ lp _) rfl i λH1 d x1=> ?_
  refine⟨lp,!⟨.inl (SqL.of x1),rfl,rfl,!?_⟩⟩;refine ifF (by decide +kernel) ?_;refine !(zg (d _ _ h1) ji ?_);refine !⟨rfl,!?_⟩;refine ifF (noS (by decide +kernel)) ?_;refine ifF rfl ?_;refine !⟨rfl,!?_⟩;refine ifT (z2J _) ?_;obtain⟨R,x0,zs,rfl,n,kx⟩:=zes j;refine !(!(sl2 (d _ _ n) λt H2 I D=> ?_));have n12:=d.trans I;refine !(!⟨p,!⟨SqT.of (n12 _ _ h1),by show¬(HT.sIx 3 0 none=0/\HT.sIx 3 3 (some 2)=3);decide,λt2 bQ=> ?_⟩⟩);refine zc (upd _ t2 _) rfl bQ λO o G=> ?_
  have B:=n12.trans o;refine⟨t,t2,[.str (j7 r),x0],["sort",a],rfl,rfl,SqT.of (o _ _ D),SqT.of G,λv hv=> ?_,λtb N=>!?_⟩
  ·rcases wE.mp hv with rfl | hv
   ·exact .inl rfl
   ·rw [wu.mp hv];exact kx.elim .inl λ⟨p',zs,e,h⟩=> .inr ⟨p',zs,e,SqT.of (B _ _ h)⟩
  cases tb with
  | true=>
   refine ifT rfl ?_;have C:=N.mp rfl;have Y:j7 r="sort":=by injection C with C;injection C
   have e2:x0= .str a:=by injection C with _ C;injection C
   obtain⟨b,r,rfl⟩:=z1f Y;have e3:b=a:=by
    obtain⟨p',S,e,g,_⟩:=j;cases e;rw [n,e2]at g
    injection g with g;injection g with g;injection g with _ g;injection g with g;injection g with g;exact g.symm
   subst e3;refine !⟨(zq rfl),λl hl=> ?_⟩;refine zc (upd _ l _) rfl hl λU M X=> ?_
   have J:=B.trans M;exact fin l _ U J X (.inr ⟨.sort b r,_,by show(if b=b then some (Qn.sort b r)else none)=_;rw [wU rfl],rfl,j.same J⟩)
  | false=>
   refine ifF rfl ?_;refine !⟨rfl,!?_⟩;refine ifF (noS (by decide +kernel)) ?_;refine ifF rfl ?_;refine !⟨rfl,!?_⟩;refine ifF (noS (by decide +kernel)) ?_;refine ifF rfl ?_;refine⟨(zq rfl),nil B ?_⟩;cases r with
   | sort b r=>
    show(if b=a then some (Qn.sort b r)else none)=none
    refine wM λz=> ?_
    obtain⟨p',S,e,g,_⟩:=j;cases e;rw [n]at g
    injection g with g;injection g with g;injection g with _ g;injection g with g _
    have:=N.mpr (by rw [g,z];rfl);cases this
   | _=>rfl
noncomputable def z3q:Qn->List Cond
 | .pick c q=>c :: z3q q
 | _=> []
noncomputable def z2I(th:Str->List Str)(q:Qn):Option Qn:=
 match q with
 | .pick c (.pick d r)=>if z4z c=true then jB th c (.pick d r)else if((z3q (.pick d r)).all (λe=> not (jB th e (beneath r)).isSome) && (jB th c (beneath r)).isSome)=true then some (.pick d (.pick c r))else none
 | q=>yw th q
theorem z6b(h:∀c d r,q≠ .pick c (.pick d r)):z2I th q=yw th q:=by
 unfold z2I;split
 ·exact absurd rfl (h _ _ _)
 ·rfl
theorem yy(h:¬j7 r="pick"):z2I th (.pick c r)=jB th c r:=by
 rw [z6b λc d s e=>h (by cases e;rfl)];exact z61 h
inductive spForms (K:W.Frag) (n:Nat) (vs:List V) (H:Hp) (Q:VK) (E:XK):Prop
 | mk:∀th tr q v tp,vs= [v,.ref tp]->n≠0->(n=1->∀c d r,q≠ .pick c (.pick d r))->TabOk th tr->jE th tr H tp->QAt H q v->wfQ th q->depth q<=160->(∀(l:Addr) (xs:List V) (H':Hp),zz H H'->H' l=some (.lst xs)->z7D H' xs (z2I th q)->Q (.ref l) H')->spForms K n vs H Q E
theorem jw:FnScope ["_law_asked","_law_tables","_law_condition","_law_inner","_law_word","_law_one","_law_between","_law_beneath","_law_other"] ["_law_asked","_law_tables"] (zm z0o):=by walk_at "s"
theorem z3A(F:Fun K "_law_forms" "_law_forms" z0o f fd)(T:Txt K mg)(n:Nat)(C:Kn P w K mg base 1 "_law_folded" ["_law_asked"] (spFolded K))(D:Kn P w K mg base 161 "_law_parted" ["_law_condition","_law_inner","_law_tables"] (spParted K))(B:Kn P w K mg base (161 + n) "_law_forms" ["_law_asked","_law_tables"] (spForms K n)):FnOk P w K mg base CX0 (161 + n + 1) f fd ["_law_asked","_law_tables"] (spForms K (n + 1)):=by
 refine F.okB jw (λvs H Q E h=> ?_) (λvs H Q E h=> ?_)
 ·obtain⟨th,tr,q,v,tp,rfl,_⟩:=h
  rfl
 obtain⟨th,tr,q,v,tp,rfl,_,A9,TT,h4,hq,wf,hd,fin⟩:=h;have dI:∀{H1:Hp},zz H H1->z2I th q=none->∀l,H1 l=none->Q (.ref l) (upd H1 l (.lst [])):=λs e l hl=>fin l [] _ (s.trans (zJ hl _)) zj (.inl ⟨e,rfl⟩)
 intro ac A outer sh hr;have hu:=z1u hr;refine⟨_,(ze (zF (cmT z14 (ixT v0 zb) zi)
   (zh (zt (zV C hr.m (zf v0 zd))))
   zu)
  (ze (seT 2 jw (ixT v0 zb))
  (ze (seT 3 jw (ixT v0 zb))
  (ze (seT 4 jw (ixT v3 zb))
  (ze (zF (cmT zK (ixT v2 zb) zi)
   (zh (zt (zx (zH (zC (zo zi (zl (ixT v2 zb) (zH (zC (zo zi (zl (ixT v2 zb) (zf v3 zd)))) zd)))) zd))))
   zu)
  (ze (zF (jR jO v4 (zx (zo zi (zo zi zd))) (by with_unfolding_all rfl))
   (zh (zt (zx (zH (zC (zf v4 (zl (ixT v3 zb) (zH (zC (zo zi (zf v2 (zl (ixT v3 zb) zd)))) zd)))) zd))))
   zu)
  (ze (zF (cmT zK v4 zi)
   (ze (seT 5 jw (zC (zo zi (zf v2 (zl (ixT v3 zb) zd)))))
   (zh (zt (zx (zH (zC (zo zi (zf v5 (zH (zC (zo zi (zf v2 (zl (ixT v3 zb) zd)))) zd)))) zd)))))
   zu)
  (ze (zF (jR jO v4 (zx (zo zi (zo zi zd))) (by with_unfolding_all rfl))
   (zh (zt (zV D hr.m (zf v2 (zf v3 (zf v1 zd))))))
   zu)
  (ze (zF (cmT z14 v4 zi)
   (zh (zt (zx zd)))
   zu)
  (ze (seT 6 jw (zx zd))
  (ze (seT 7 jw v3)
  (ze (z6r (cmT zK (ixT (pv 7) zb) zi)
   (ze (jg (apP (pv 6) (zl (ixT (pv 7) zb) zd)))
   (zh (seT 7 jw (ixT (pv 7) zb)))))
  (ze (foR (jb (pv 6)) (gnM 8 jw)
   (zh (zF (cmT (z2G hu) (zV B hr.m (zH (zC (zo zi (zf (pv 8) (zf (pv 7) zd)))) (zf v1 zd))) (zx zd))
    (zh (zt (zx zd)))
    zu)))
  (ze (zF (cmT (z1L hu) (zV B hr.m (zH (zC (zo zi (zf v2 (zf (pv 7) zd)))) (zf v1 zd))) (zx zd))
   (zh (zt (zx zd)))
   zu)
  (zh (zt (zx (zH (zC (zo zi (zl (ixT v3 zb) (zH (zC (zo zi (zf v2 (zl (ixT v3 zb) zd)))) zd)))) zd)))))))))))))))))),?_⟩
 generalize hK0:K=K1
 revert K1
 refine jo (by walk_at "cl") ?_;rcases Classical.em (¬j7 q="pick")with hw | hw
 ·obtain⟨p,xs,rfl,h1⟩:=z4D hq;refine !(zg h1 zD ⟨rfl,!?_⟩);refine ifT (by show(not (decide _))=true;rw [noS hw];rfl) ?_;exact !⟨th,q,.ref p,rfl,hq,z2K hw,λl xs H' s' U Y=>fin l xs H' s' U (by rw [z6b λc d r=>z2K hw c (.pick d r)];exact Y)⟩
 obtain⟨c,r,rfl⟩:=yW (Classical.not_not.mp hw);obtain⟨p,x,y,rfl,h1,hc,hr⟩:=hq;obtain⟨pr,zs,rfl,k0⟩:=z4D hr;obtain⟨cp,ys,rfl,aI⟩:=kI hc;refine !(zg h1 zD ⟨rfl,!?_⟩);refine ifF (by decide +kernel) ?_;refine !(zg h1 jc ?_);refine !(zg h1 ji ?_);refine !(zg k0 zD ?_);refine !(zg aI zD ⟨rfl,!?_⟩);rw [zW,z5q];by_cases han:z4z c=true
 ·refine ifT han ?_;cases c with
  | an a b=>
   obtain⟨xD,c1,c2,e0,dP,g1,g2⟩:=hc;cases e0;have Z:z2I th (.pick (.an a b) r)=some (.pick a (.pick b r)):=by cases r <;> rfl
   refine !(zg dP jc (!(zg dP ji (!⟨(zq rfl),λt ht=> ?_⟩))));refine zc (upd _ t _) rfl ht λH2 I J=> ?_
   refine⟨(zq rfl),λu L=> ?_⟩;refine zc (upd _ u _) rfl L λH3 R x3=> ?_
   refine⟨(zq rfl),λl hl=> ?_⟩;refine zc (upd _ l _) rfl hl λH4 G X=> ?_
   have O:=I.trans (R.trans G);exact fin l _ H4 O X (.inr ⟨_,_,Z,rfl,u,_,_,rfl,G _ _ x3,g1.mono λb xs z=>O _ _ z,t,_,_,rfl,(R.trans G) _ _ J,g2.mono λb xs z=>O _ _ z,hr.same O⟩)
  | _=>cases han
 refine ifF (qW.mpr han) ?_;have eW:∀z,jB th c z=z6X th c z:=λz=>by cases c <;> first | rfl | exact absurd rfl han
 refine !⟨(zq rfl),λl1 fz=> ?_⟩;refine zc (upd _ l1 _) rfl fz λH1 M x1=> ?_
 refine⟨l1,!⟨.inl (SqL.of x1),rfl,rfl,!?_⟩⟩;cases r with
 | sort a s=>
  obtain⟨pZ,y',e1,S,k3⟩:=hr;cases e1;refine ifT (by kernel_rfl) ?_;refine !(!(zg (M _ _ S) jc (!(!(zg (M _ _ S) ji ⟨(zq rfl),λt ht=> ?_⟩)))));refine zc (upd _ t _) rfl ht λH2 I J=> ?_
  refine⟨(zq rfl),λu L=> ?_⟩;refine zc (upd _ u _) rfl L λH3 R x3=> ?_
  refine⟨(zq rfl),λl hl=> ?_⟩;refine zc (upd _ l _) rfl hl λH4 G X=> ?_
  have O:=M.trans (I.trans (R.trans G));exact fin l _ H4 O X (.inr ⟨_,_,(yy (qd (by kernel_rfl))).trans (eW _),rfl,u,_,rfl,G _ _ x3,t,_,_,rfl,(R.trans G) _ _ J,hc.mono λb xs z=>O _ _ z,k3.same O⟩)
 | cols ns s=>
  obtain⟨pZ,U,y',e1,S,k2,k3⟩:=hr;cases e1;refine ifT (by kernel_rfl) ?_;refine !(!(zg (M _ _ S) jc (!(!(zg (M _ _ S) ji ⟨(zq rfl),λt ht=> ?_⟩)))));refine zc (upd _ t _) rfl ht λH2 I J=> ?_
  refine⟨(zq rfl),λu L=> ?_⟩;refine zc (upd _ u _) rfl L λH3 R x3=> ?_
  refine⟨(zq rfl),λl hl=> ?_⟩;refine zc (upd _ l _) rfl hl λH4 G X=> ?_
  have O:=M.trans (I.trans (R.trans G));exact fin l _ H4 O X (.inr ⟨_,_,(yy (qd (by kernel_rfl))).trans (eW _),rfl,u,_,_,rfl,G _ _ x3,O _ _ k2,t,_,_,rfl,(R.trans G) _ _ J,hc.mono λb xs z=>O _ _ z,k3.same O⟩)
 | both a b=>
  obtain⟨pZ,U,y',e1,S,k2,k3⟩:=hr;cases e1;refine ifF (by kernel_rfl) ?_;refine !⟨rfl,!?_⟩;refine ifT (z2J _) ?_;refine !(!(zg (M _ _ S) jc ⟨(zq rfl),λt ht=> ?_⟩));refine zc (upd _ t _) rfl ht λH2 I J=> ?_
  refine !(!(!(zg ((M.trans I) _ _ S) ji ⟨(zq rfl),λt2 bQ=> ?_⟩)));refine zc (upd _ t2 _) rfl bQ λH3 R x3=> ?_
  refine⟨(zq rfl),λu L=> ?_⟩;refine zc (upd _ u _) rfl L λH4 G X=> ?_
  refine⟨(zq rfl),λl hl=> ?_⟩;refine zc (upd _ l _) rfl hl λH5 n5 x5=> ?_
  have aV:=M.trans (I.trans (R.trans (G.trans n5)));exact fin l _ H5 aV x5 (.inr ⟨_,_,(yy (qd (by kernel_rfl))).trans (eW _),rfl,u,_,_,rfl,n5 _ _ X,⟨t,_,_,rfl,(R.trans (G.trans n5)) _ _ J,hc.mono λb xs z=>aV _ _ z,k2.same aV⟩,t2,_,_,rfl,(G.trans n5) _ _ x3,hc.mono λb xs z=>aV _ _ z,k3.same aV⟩)
 | pair a b=>
  refine ifF (by kernel_rfl) ?_;refine !⟨rfl,!?_⟩;refine ifF (noS (qd (by kernel_rfl))) ?_;refine !⟨(zq rfl),λl2 N=> ?_⟩;refine zc (upd _ l2 _) rfl N λH2 I J=> ?_
  refine⟨l2,!⟨.inl (SqL.of J),rfl,rfl,!?_⟩⟩;refine ifT (by kernel_rfl) ?_;have n12:=M.trans I;have dd:depth a<=160:=by simp only [depth]at hd;lia
  exact !(!(!⟨th,tr,c,.pair,true,a,b,_,_,tp,rfl,TT,h4.same n12,hc.mono λb xs z=>n12 _ _ z,wf.2.1,(.inl ⟨rfl,rfl⟩),wf.1,hr.same n12,wf.2.2.2.2.1,wf.2.2.1,dd,λl xs H' s' U Y=>fin l xs H' (n12.trans s') U (by rw [yy (qd (by kernel_rfl)),eW];exact Y)⟩))
 | join u w0 a b=>
  refine ifF (by kernel_rfl) ?_;refine !⟨rfl,!?_⟩;refine ifF (noS (qd (by kernel_rfl))) ?_;refine !⟨(zq rfl),λl2 N=> ?_⟩;refine zc (upd _ l2 _) rfl N λH2 I J=> ?_
  refine⟨l2,!⟨.inl (SqL.of J),rfl,rfl,!?_⟩⟩;refine ifT (by kernel_rfl) ?_;have n12:=M.trans I;have dd:depth a<=160:=by simp only [depth]at hd;lia
  exact !(!(!⟨th,tr,c,(.join u w0),false,a,b,_,_,tp,rfl,TT,h4.same n12,hc.mono λb xs z=>n12 _ _ z,wf.2.1,(.inr ⟨u,w0,rfl,rfl⟩),wf.1,hr.same n12,wf.2.2.2.2.2.2.1,wf.2.2.2.2.1,dd,λl xs H' s' U Y=>fin l xs H' (n12.trans s') U (by rw [yy (qd (by kernel_rfl)),eW];exact Y)⟩))
 | table m=>
  refine ifF (by kernel_rfl) ?_;refine !⟨rfl,!?_⟩;refine ifF (noS (qd (by kernel_rfl))) ?_;refine !⟨(zq rfl),λl2 N=> ?_⟩;refine zc (upd _ l2 _) rfl N λH2 I J=> ?_
  refine⟨l2,!⟨.inl (SqL.of J),rfl,rfl,!?_⟩⟩;refine ifF (by kernel_rfl) ?_;refine !⟨rfl,!?_⟩;refine ifT (by kernel_rfl) ?_;exact⟨(zq rfl),dI (M.trans I) ((yy (qd (by kernel_rfl))).trans (eW _))⟩
 | first m s=>
  refine ifF (by kernel_rfl) ?_;refine !⟨rfl,!?_⟩;refine ifF (noS (qd (by kernel_rfl))) ?_;refine !⟨(zq rfl),λl2 N=> ?_⟩;refine zc (upd _ l2 _) rfl N λH2 I J=> ?_
  refine⟨l2,!⟨.inl (SqL.of J),rfl,rfl,!?_⟩⟩;refine ifF (by kernel_rfl) ?_;refine !⟨rfl,!?_⟩;refine ifT (by kernel_rfl) ?_;exact⟨(zq rfl),dI (M.trans I) ((yy (qd (by kernel_rfl))).trans (eW _))⟩
 | group a b m o s=>
  refine ifF (by kernel_rfl) ?_;refine !⟨rfl,!?_⟩;refine ifF (noS (qd (by kernel_rfl))) ?_;refine !⟨(zq rfl),λl2 N=> ?_⟩;refine zc (upd _ l2 _) rfl N λH2 I J=> ?_
  refine⟨l2,!⟨.inl (SqL.of J),rfl,rfl,!?_⟩⟩;refine ifF (by kernel_rfl) ?_;refine !⟨rfl,!?_⟩;refine ifT (by kernel_rfl) ?_;exact⟨(zq rfl),dI (M.trans I) ((yy (qd (by kernel_rfl))).trans (eW _))⟩
 | pick d s=>
  refine ifF (by kernel_rfl) ?_;refine !⟨rfl,!?_⟩;refine ifF (noS (qd (by kernel_rfl))) ?_;refine !⟨(zq rfl),λl2 N=> ?_⟩;refine zc (upd _ l2 _) rfl N λH2 I J=> ?_
  refine⟨l2,!⟨.inl (SqL.of J),rfl,rfl,!?_⟩⟩;refine ifF (by kernel_rfl) ?_;refine !⟨rfl,!?_⟩;refine ifF (by kernel_rfl) ?_;have hn:n≠0:=λz=>A9 (by lia) c d s rfl
  have n12:=M.trans I;refine⟨(zq rfl),λbl ag=> ?_⟩;have fb:H bl=none:=n12.free ag;have s0:zz H (upd H2 bl (.lst [])):=n12.trans (zJ ag _);refine !?_;have Dl:depth (.pick d s)<=159:=by simp only [depth]at hd ⊢;lia
  have Aa:za th (beneath s)=za th s:=kW s;refine z0H (λm σ H'=>∃(r:Qn) (u:V) (es:List Cond) (bs:List V),σ= [some (.ref p),some (.ref tp),some (.ref cp),some (.ref pr),some (.str (j7 (.pick d s))),none,some (.ref bl),some u,none]/\zz H H'/\H' bl=some (.lst bs)/\QAt H r u/\bs.length=es.length/\(∀(i:Nat) e,es[i]? =some e->∃b,bs[i]? =some b/\zI H e b)/\(∀e∈es,e.ok (za th (beneath s))/\e.size<=20)/\
    z3q (.pick d s)=es ++ z3q r/\beneath r=beneath s/\wfQ th r/\bs.length + depth r<=160/\m=depth r) (depth (.pick d s))
   ⟨.pick d s,_,[],[],rfl,s0,zj,hr,rfl,by simp,by simp,rfl,rfl,wf.2.2,by simp only [Qe];lia,rfl⟩ ?_
  rintro m σ H' ⟨r,u,es,bs,rfl,sH,hb,hu,hlen,bN,hok,ec,eb,wr,r6,rfl⟩;obtain⟨pu,oP,rfl,Ab⟩:=z4D hu;refine !(zg (sH _ _ Ab) zD ⟨rfl,!?_⟩);by_cases db:j7 r="pick"
  ·refine ifT (by rw [db];exact z2J _) ?_;obtain⟨e,t,rfl⟩:=yW db;obtain⟨p',U,y',e1,S,k2,k3⟩:=hu;cases e1;refine⟨_,λσ' H' z=>z,?_⟩;refine !⟨.inl ⟨rfl,_,SqL.of hb⟩,!(zg (sH _ _ S) jc ⟨bl,ex2 rfl rfl ⟨hb,zG (by lia),?_⟩⟩)⟩;have s3:zz H (upd H' bl (.lst (bs ++ [U]))):=sH.put fb;refine !(zg (s3 _ _ S) ji ?_);refine⟨depth t,by show depth t < depth t + 1;lia,t,y',es ++ [e],bs ++ [U],rfl,s3,zj,k3,by simp [hlen],λi e' he=> ?_,λe' he=> ?_,by rw [ec,Q9];rfl,eb,wr.2.2,by rw [wb];show bs.length + 1 + depth t<=160;simp only [depth]at r6;lia,rfl⟩
   ·by_cases hi:i < es.length
    ·rw [Qt hi]at he;obtain⟨b,cA,bR⟩:=bN i e' he;exact⟨b,by rw [Qt (by lia)];exact cA,bR⟩
    ·have hX:=(we.mp he).1;rw [wb,wD]at hX;have iS:i=es.length:=by lia
     subst iS;rw [Q7 (ww _),Nat.sub_self]at he;cases he;exact⟨U,by rw [<-hlen,Q7 (ww _),Nat.sub_self];rfl,k2⟩
   ·rcases wx.mp he with he | he
    ·exact hok e' he
    ·rw [wu.mp he];have e3:za th t=za th (beneath s):=by rw [<-eb];exact(kW t).symm
     exact⟨by rw [<-e3];exact wr.1,wr.2.1⟩
  ·refine ifF (noS db) ?_;have Ac:r=beneath s:=by rw [<-eb,z2t (z2K db)]
   subst Ac;have cr:z3q (beneath s)= []:=by
    generalize beneath s=r at db;cases r <;> first | rfl | exact absurd rfl db
   rw [cr,Qb]at ec;have mM:z2I th (.pick c (.pick d s))=if((z3q (.pick d s)).all (λe=> not (jB th e (beneath s)).isSome) && (jB th c (beneath s)).isSome)=true then some (.pick d (.pick c s))else none:=by
    show(if z4z c=true then _ else _)=_
    rw [wM han]
   have Dm:1<=es.length:=by rw [<-ec];simp [z3q]
   have Do:depth (beneath s)<=159:=by lia
   have ui:∀{e c' d' r'},Qn.pick e (beneath s)≠ .pick c' (.pick d' r'):=λz=>by
    injection z with _ z
    rw [z]at db;exact db rfl
   obtain⟨pZ,dv,sv,e1,g1,g2,g3⟩:=hr;cases e1;refine !⟨bl,rfl,⟨_,SqL.of hb⟩,km (K:=K) (a:=bl) (xs:=bs) (λi σ H3=>∃o8:Option V,σ= [some (.ref p),some (.ref tp),some (.ref cp),some (.ref pr),some (.str (j7 (.pick d s))),none,some (.ref bl),some (.ref pu),o8]/\zz H H3/\H3 bl=some (.lst bs)/\∀(j:Nat) e,j < i->es[j]? =some e->(jB th e (beneath s)).isSome=false)
    ⟨none,rfl,sH,hb,λj e h=>absurd h (Nat.not_lt_zero _)⟩ (λi σ H3 _ ⟨_,_,_,b3,_⟩=>SqL.of b3) ?_ ?_⟩
   ·rintro i x σ H3 hi ⟨o8,rfl,s3,b3,aH⟩;have g7:i < es.length:=by rw [<-hlen];exact(we.mp hi).1
    have he:es[i]? =some es[i]:=wa g7;generalize es[i]=e at he;obtain⟨b,cA,Ad⟩:=bN i e he;rw [hi]at cA;cases cA;have uj:=hok e (qD he);refine !(!⟨(zq rfl),λt ht=> ?_⟩);refine zc (upd _ t _) rfl ht λH4 G X=> ?_
    have s4:=s3.trans G;refine !⟨th,tr,.pick e (beneath s),_,tp,rfl,hn,λ_ _ _ _=>ui,TT,h4.same s4,⟨t,_,_,rfl,X,Ad.mono λb xs z=>s4 _ _ z,hu.same s4⟩,⟨uj.1,uj.2,wr⟩,by show depth (beneath s) + 1<=160;lia,λl xs H5 n5 x5 Y=> ?_⟩;refine⟨(zq rfl),λep ad=> ?_⟩;refine zc (upd _ ep _) rfl ad λH6 n6 x6=> ?_
    have s6:=s4.trans (n5.trans n6);refine⟨l,ep,xs,rfl,rfl,SqL.of (n6 _ _ x5),SqL.of x6,!?_⟩;rw [yy db]at Y;rcases Y with⟨Z,rfl⟩ | ⟨q',v',Z,rfl,_⟩
    ·refine ifF rfl ?_;refine⟨_,rfl,s6,(G.trans (n5.trans n6)) _ _ b3,λj e' hj ae=> ?_⟩;by_cases hG:j < i
     ·exact aH j e' hG ae
     ·have:j=i:=by lia
      subst this;rw [he]at ae;cases ae;rw [Z]
      rfl
    ·refine ifT rfl ?_;refine⟨(zq rfl),dI s6 ?_⟩;rw [mM,wM];intro z;rw [qT,qH]at z;have:=z.1 e (by rw [ec];exact qD he);rw [Z]at this;cases this
   ·rintro σ H3 ⟨o8,rfl,s3,b3,aH⟩;have du:(z3q (.pick d s)).all (λe=> not (jB th e (beneath s)).isSome)=true:=by
     rw [ec,qH];intro e he;obtain⟨j,hj⟩:=List.getElem?_of_mem he;rw [aH j e (by rw [hlen];exact(we.mp hj).1) hj]
     rfl
    rw [du,w0Y]at mM;refine !(!⟨(zq rfl),λt ht=> ?_⟩);refine zc (upd _ t _) rfl ht λH4 G X=> ?_
    have s4:=s3.trans G;refine !⟨th,tr,.pick c (beneath s),_,tp,rfl,hn,λ_ _ _ _=>ui,TT,h4.same s4,⟨t,_,_,rfl,X,hc.mono λb xs z=>s4 _ _ z,hu.same s4⟩,⟨by rw [Aa];exact wf.1,wf.2.1,wr⟩,by show depth (beneath s) + 1<=160;lia,λl xs H5 n5 x5 Y=> ?_⟩;refine⟨(zq rfl),λep ad=> ?_⟩;refine zc (upd _ ep _) rfl ad λH6 n6 x6=> ?_
    have s6:=s4.trans (n5.trans n6);refine⟨l,ep,xs,rfl,rfl,SqL.of (n6 _ _ x5),SqL.of x6,!?_⟩;rw [yy db]at Y;rcases Y with⟨Z,rfl⟩ | ⟨q',v',Z,rfl,_⟩
    ·refine ifT rfl ?_;exact⟨(zq rfl),dI s6 (by rw [mM,Z];rfl)⟩
    ·refine ifF rfl ?_;have fq:z2I th (.pick c (.pick d s))=some (.pick d (.pick c s)):=by rw [mM,Z];rfl
     refine !(zg (s6 _ _ g1) jc (!(!(zg (s6 _ _ g1) ji ⟨(zq rfl),λt1 aj=> ?_⟩))));refine zc (upd _ t1 _) rfl aj λH7 n7 x7=> ?_
     refine⟨(zq rfl),λt2 bQ=> ?_⟩;refine zc (upd _ t2 _) rfl bQ λH8 n8 x8=> ?_
     refine⟨(zq rfl),λl2 N=> ?_⟩;refine zc (upd _ l2 _) rfl N λH9 n9 x9=> ?_
     have s9:=s6.trans (n7.trans (n8.trans n9));exact fin l2 _ H9 s9 x9 (.inr ⟨_,_,fq,rfl,t2,_,_,rfl,n9 _ _ x8,g2.mono λb xs z=>s9 _ _ z,t1,_,_,rfl,(n8.trans n9) _ _ x7,hc.mono λb xs z=>s9 _ _ z,g3.same s9⟩)
theorem z2d(F:Fun K "_law_forms" "_law_forms" z0o f fd)(T:Txt K mg)(b:Kn P w K mg base 1 "_law_folded" ["_law_asked"] (spFolded K))(a:Kn P w K mg base 161 "_law_parted" ["_law_condition","_law_inner","_law_tables"] (spParted K))(c:∀k sp,FnOk P w K mg base CX0 k f fd ["_law_asked","_law_tables"] sp->Kn P w K mg base k "_law_forms" ["_law_asked","_law_tables"] sp):∀n,FnOk P w K mg base CX0 (161 + n) f fd ["_law_asked","_law_tables"] (spForms K n)
 | 0=>⟨λvs H Q E h=>by obtain⟨th,tr,q,v,tp,rfl,_⟩:=h;rfl,λA outer s H args us vs Q E hr d e i h=>by
  obtain⟨th,tr,q,v,tp,_,hz,_⟩:=h;exact absurd rfl hz⟩
 | n + 1=>z3A F T n b a (c (161 + n) _ (z2d F T b a c n))
noncomputable def z7f:Qn->Nat
 | .table _=>1
 | .pick _ _ | .cols _ _ | .sort _ _ | .first _ _ | .pair _ _ | .both _ _=>2
 | .join _ _ _ _=>4
 | .group _ _ _ _ _=>5
theorem ze0{v:V}(h:QAt H q v):∃p xs,v= .ref p/\H p=some (.tup (.str (j7 q) :: xs))/\xs.length=z7f q:=by
 cases q with
 | table n=>obtain⟨p,e,h⟩:=h;exact⟨p,_,e,h,rfl⟩
 | pick | cols | pair | join | both=>obtain⟨p,x,y,e,h,_⟩:=h;exact⟨p,_,e,h,rfl⟩
 | first | group | sort=>obtain⟨p,y,e,h,_⟩:=h;exact⟨p,_,e,h,rfl⟩
noncomputable def z35:List (Key×V):= [(.inr "table",.int 2),(.inr "pick",.int 3),(.inr "cols",.int 3),(.inr "sort",.int 3),(.inr "first",.int 3),(.inr "group",.int 6)]
inductive spFormed (K:W.Frag) (vs:List V) (H:Hp) (Q:VK) (E:XK):Prop
 | mk:∀q v,vs= [v]->QAt H q v->(∀H',zz H H'->Q (.bl true) H')->spFormed K vs H Q E
theorem z1C:FnScope ["_law_asked","_law_sizes"] ["_law_asked"] (zm z0T):=by walk_at "s"
theorem z4G(F:Fun K "_law_formed" "_law_formed" z0T f fd)(T:Txt K mg):FnOk P w K mg base CX0 1 f fd ["_law_asked"] (spFormed K):=by
 refine F.okB z1C (λvs H Q E h=> ?_) (λvs H Q E h=> ?_)
 ·obtain⟨q,v,rfl,_⟩:=h
  rfl
 obtain⟨q,v,rfl,hq,fin⟩:=h;intro ac A outer s hr;have r:=z1u hr;refine⟨_,(ze (zF (PW.pt (z5n (yF (jq (zQ j6 rfl T.isinstance wX (zf v0 (zf (yn (v:= .ty "tuple") rfl T.tuple Qz rfl) zd))))) (z3S (cmT z5p (leN T.len (zf v0 zd)) zb))))
   (zh (zt yt))
   zu)
  (ze (seT 1 z1C (zbG (z1c zi zb (z1c zi zb (z1c zi zb (z1c zi zb (z1c zi zb (z1c zi zb zc5)))))) rfl rfl nofun (by decide)))
  (ze (zF (jR jO (ixT v0 zb) (zx (zo zi (zo zi zd))) (by with_unfolding_all rfl))
   (zh (zt (cmE zK (leN T.len (zf v0 zd)) zb)))
   zu)
  (ze (zF (cmT zK (ixT v0 zb) zi)
   (zh (zt (cmE zK (leN T.len (zf v0 zd)) zb)))
   zu)
  (zh (zt (zdH (zQ j6 rfl T.isinstance wX (zl (ixT v0 zb) (zf (yn (v:= .ty "str") rfl T.str qX rfl) zd))) (zdj (cmE zK (z9G r v1 (ixT v0 zb) zb ⟨rfl,rfl,rfl,rfl⟩) (leN T.len (zf v0 zd))))))))))),?_⟩
 generalize hK0:K=K1
 revert K1
 refine jo (by walk_at "cl") ?_;obtain⟨p,xs,rfl,h1,a⟩:∃p xs,v= .ref p/\H p=some (.tup (.str (j7 q) :: xs))/\xs.length=z7f q:=ze0 hq
 refine !⟨_,_,_,!⟨TyOf.tup h1,jZ,!?_⟩⟩;refine ifF rfl ?_;refine !⟨p,!⟨.inr (SqT.of h1),ex2 rfl rfl (!?_)⟩⟩;have t:1<=z7f q:=by cases q <;> simp [z7f]
 refine ifF (wI (by rw [wJ,a];lia)) ?_;refine λdp d=>⟨zj,z35,rfl,by decide,?_⟩
 have s1:zz H (upd (upd H dp (.dK [])) dp (.dK (z0U [] z35))):=(zJ d (.dK [])).put d;have x1:upd (upd H dp (.dK [])) dp (.dK (z0U [] z35)) dp=some (.dK (z0U [] z35)):=zj;generalize upd (upd H dp (.dK [])) dp (.dK (z0U [] z35))=H1 at s1 x1 ⊢;refine !(zg (s1 _ _ h1) zD ⟨(zq rfl),λlp o=> ?_⟩);refine zc (upd _ lp _) rfl o λH2 l n=> ?_
 refine⟨lp,!⟨.inl (SqL.of n),rfl,rfl,!?_⟩⟩;have s2:=s1.trans l;have b:∀{i j:Int},i=j->Q (.bl (decide (V.int i=V.int j))) H2:=λ{i j} e=>by rw [e,wN rfl];exact fin H2 s2
 by_cases aQ:inV (.str (j7 q)) [.str "pair",.str "both"]=true
 ·refine ifT aQ ?_;have c:z7f q=2:=by cases q <;> first | rfl | exact absurd aQ (qW.mp (by kernel_rfl))
  exact !⟨p,!⟨.inr (SqT.of (s2 _ _ h1)),rfl,b (by rw [wJ,a,c];rfl)⟩⟩
 ·refine ifF (qW.mpr aQ) ?_;refine !(zg (s2 _ _ h1) zD ⟨rfl,!?_⟩);by_cases hj:j7 q="join"
  ·refine ifT (by rw [hj];exact z2J _) ?_;have c:z7f q=4:=by obtain⟨_,_,_,_,rfl⟩:=z4v hj;rfl
   exact !⟨p,!⟨.inr (SqT.of (s2 _ _ h1)),rfl,b (by rw [wJ,a,c];rfl)⟩⟩
  ·refine ifF (noS hj) ?_;refine !(zg (s2 _ _ h1) zD ⟨_,_,_,!⟨TyOf.str _,jZ,?_⟩⟩);refine !?_;refine z7U ?_;have d2:=l _ _ x1;refine !⟨dp,rfl,.inl ⟨_,Rd.of d2⟩,!(zg (s2 _ _ h1) zD ⟨_,zak.k (k:=Sum.inr (j7 q)) d2,?_⟩)⟩;have ev:(z27 (z0U [] z35) (Sum.inr (j7 q))).getD (.int 0)= .int ((z7f q + 1:Nat):Int):=by
    cases q with
    | pair | both=>exact absurd (by kernel_rfl) aQ
    | join=>exact absurd rfl hj
    | _=>kernel_rfl
   rw [ev];exact !⟨p,!⟨.inr (SqT.of (s2 _ _ h1)),rfl,b (by rw [wJ,a])⟩⟩
noncomputable def pd:Qn->Nat
 | .table _=>1
 | .pick c q=>c.size + pd q
 | .cols _ q | .first _ q | .group _ _ _ _ q | .sort _ q=>pd q + 1
 | .pair q r | .join _ _ q r | .both q r=>max (pd q) (pd r) + 1
theorem zbb(q:Qn):depth q<=pd q:=by
 induction q
 case' pick c q i=>have:=c.size_pos
 all_goals
  simp only [depth,pd]
  lia
theorem z8c(hm:∀x y,pd (mk x y)=max (pd x) (pd y) + 1)(e:jz th c mk b q r=some q'):pd q'<=c.size + (max (pd q) (pd r) + 1):=by
 rcases z1h e with _ | _ | ⟨x,y⟩
 ·rw [hm];simp only [pd];lia
 ·rw [hm];simp only [pd];lia
 ·unfold yG;split <;> simp only [pd] <;> lia
theorem zbm(e:yw th q=some q'):pd q'<=pd q:=by
 rcases z1T e with⟨c,r,_,f⟩ | ⟨c,d,r,_⟩ | ⟨n,m,r⟩ | ⟨n,l,r⟩ | ⟨l,m,r⟩ | ⟨a,r⟩
 ·rcases z1l f with⟨a,b,rfl,rfl⟩ | g
  ·have:(Cond.an a b).size=a.size + b.size + 1:=rfl;simp only [pd,this]
   lia
  cases r with
  | pair r s=>exact z8c (mk:= .pair) (b:=true) (λ_ _=>rfl) g
  | join a b r s=>exact z8c (mk:= .join a b) (b:=false) (λ_ _=>rfl) g
  | sort | cols | both=>cases g;simp only [pd];lia
  | _=>cases g
 all_goals
  simp only [pd]
  lia
theorem zdo{k:Qn}(a:(kids p)[i]? =some k)(h:pd k'<=pd k):pd (zN p i k')<=pd p:=by
 cases p <;> rcases i with _ | _ | i <;> cases a <;> simp only [zN,pd,w0M,w1g,Nat.one_ne_zero,w0v] <;> lia
theorem z8D:∀{c:List (Qn×Nat)} {q q':Qn},z02 th c q->pd q'<=pd q->pd (plug c q')<=pd (plug c q)
 | [],_,_,_,e=>e
 | (p,i) :: c,q,q',h,e=>by
  have a:=zdo (z4g (k:=q) h.1) e;rw [set_set h.1]at a;exact z8D (c:=c) h.2.2 a
theorem Tns.pd{H:Hp}{us:List V}{p q:Qn}(h:Tns th H us p q):pd q<=pd p:=by
 induction h with
 | one q v h=>exact ww _
 | more us p q r v t o h a=>
  obtain⟨c,x,y,hc,rfl,rfl,e,_⟩:=o;exact wV (z8D hc (zbm e)) a
theorem zdN(h:okQ th q):Q12.pd q<=6 * depth q:=by
 induction q
 case' pick c q i=>have:=i h.2.2;have:=h.2.1
 case' cols i=>have:=i h.2.2.2
 case' first i=>have:=i h.2
 case' group i=>have:=i h.2.2.2.2.2
 case' sort i=>have:=i h.2
 case' pair q r i j=>have:=i h.2.1;have:=j h.2.2
 case' join q r i j=>have:=i h.2.2.2.1;have:=j h.2.2.2.2
 case' both q r i j=>have:=i h.2.1;have:=j h.2.2
 all_goals
  simp only [Q12.pd,depth]
  lia
theorem zco(q:Qn):(post q).length<=depth q * zv q:=by
 induction q
 case' pick q i | cols q i | first q i | sort q i=>have:=yp q
 case' group q i=>have:=yp q
 case' pair q r i j | join q r i j | both q r i j=>have:=yp q;have:=yp r;have b:depth q * zv q<=max (depth q) (depth r) * zv q:=QD _ (Nat.le_max_left _ _);have a:depth r * zv r<=max (depth q) (depth r) * zv r:=QD _ (Nat.le_max_right _ _)
 all_goals
  simp only [post,depth,zv,wb,wD,QY,Qk,w1b]
  lia
theorem z9R(h:okQ th q)(hd:depth q<=25)(hl:zv q<=12):wt q<=4000:=by
 have h1:=zdT h;have h2:=zco q;have a:depth q * zv q<=25 * 12:=w0K hd hl
 lia
theorem zbY(h:nf th q):z2I th q=none:=by
 have e:=h q (z57 q);by_cases z:∃c d r,q= .pick c (.pick d r)
 ·obtain⟨c,d,r,rfl⟩:=z;have st:=z6Z e;have hs:(jB th c (beneath r)).isSome=false:=st;have ha:¬z4z c=true:=λa=>by rw [z5f a]at hs;cases hs
  show(if z4z c=true then _ else _)=_
  rw [wM ha,hs,Bool.and_false]
  rfl
 ·rw [z6b λc d r e=>z ⟨c,d,r,e⟩];exact e
theorem z0w{k:Qn}(h:nf th q)(m:k∈kids q):nf th k:=λr hr=>h r (by rw [z0p];exact qe _ (List.mem_flatMap.mpr ⟨k,m,hr⟩))
theorem zcG(T:TabOk th tr):∀n∈tabs,∀s∈th n,s∈z08 26 3:=by
 have hl:∀s∈j9,s∈z08 26 3:=by decide +kernel
 have ht:∀s∈th "t",s∈z08 26 3:=by
  obtain⟨m,_,_,e⟩:=T.t;rw [e];exact λs hs=>hl s (QC hs)
 intro n hn;have a:n="t"\/n="tuvtuvtuvw"\/n="tuvtuvtuvx"\/n="tuvz":=by
  unfold tabs at hn
  simpa using hn
 rcases a with rfl | rfl | rfl | rfl
 ·exact ht
 ·rw [T.w];decide +kernel
 ·rw [T.x];decide +kernel
 ·rw [T.z];exact ht
theorem z7W:∀g∈signs,(("n":Str) ++ g)∈z08 26 3/\(("s":Str) ++ g)∈z08 26 3:=by decide +kernel
theorem yQ(T:TabOk th tr):∀{q:Qn},okQ th q->∀s∈za th q,s∈z08 26 3
 | .table n,h=>zcG T n h
 | .pick _ q,h=>yQ T (q:=q) h.2.2
 | .cols ns q,h=>λs hs=>yQ T (q:=q) h.2.2.2 s (h.2.2.1 s hs)
 | .pair q r,h=>λs hs=>by
  rcases wx.mp hs with hs | hs
  ·exact yQ T (q:=q) h.2.1 s hs
  ·exact yQ T (q:=r) h.2.2 s hs
 | .join a b q r,h=>λs hs=>by
  rcases wx.mp hs with hs | hs
  ·exact yQ T (q:=q) h.2.2.2.1 s hs
  ·exact yQ T (q:=r) h.2.2.2.2 s hs
 | .both q r,h=>yQ T (q:=q) h.2.1
 | .first _ q,h=>yQ T (q:=q) h.2
 | .group a b n s q,h=>λx e=>by
  obtain⟨ha,_,⟨g,c,rfl,rfl⟩,_,_,hq⟩:=h;have d:x∈ [a,("n":Str) ++ g,("s":Str) ++ g]:=e;simp only [wE,qf,Qu]at d;rcases d with rfl | rfl | rfl
  ·exact yQ T (q:=q) hq _ ha
  ·exact(z7W g c).1
  ·exact(z7W g c).2
 | .sort _ q,h=>yQ T (q:=q) h.2
theorem zaH:∀i∈z0f,0<=i:=by decide +kernel
theorem zbU:∀g∈signs,(("n":Str) ++ g)≠(("s":Str) ++ g):=by decide +kernel
def z6W(T:TabOk th tr)(hq:okQ th q)(hr:okQ th r)(nd:∀n∈za th q,n∉za th r):(za th q ++ za th r).length<=100:=
 wV (yY (QL.mpr ⟨(jA T hq).2,(jA T hr).2,λa ha b d e=>nd a ha (e ▸ d)⟩) λx c=>(wx.mp c).elim (yQ T hq x) (yQ T hr x)) z4k
theorem z1w(T:TabOk th tr):∀{q:Qn},okQ th q->wfQ th q
 | .table n,h=>h
 | .pick c q,h=>⟨h.1.ok,wV h.2.1 (by decide),z1w T h.2.2⟩
 | .cols ns q,h=>⟨h.2.1,h.2.2.1,z1w T h.2.2.2⟩
 | .pair q r,h=>⟨h.1,z6W T h.2.1 h.2.2 h.1,z1w T h.2.1,z1w T h.2.2⟩
 | .join a b q r,h=>⟨h.1,h.2.1,h.2.2.1,z6W T h.2.2.2.1 h.2.2.2.2 h.2.2.1,z1w T h.2.2.2.1,z1w T h.2.2.2.2⟩
 | .both q r,h=>⟨h.1,z1w T h.2.1,z1w T h.2.2⟩
 | .first n q,h=>⟨zaH n h.1,z1w T h.2⟩
 | .group a b n s q,h=>by
  obtain⟨ha,d,⟨g,e,rfl,rfl⟩,h1,h2,hq⟩:=h;refine⟨ha,d,?_,z1w T hq⟩;have:=zbU g e;simp [h1,h2,this]
 | .sort a q,h=>⟨h.1,z1w T h.2⟩
theorem TabAt.ev{v:V}(h:TabAt th tr H v n)(k:Ev th C H H'):TabAt th tr H' v n:=by
 obtain⟨p,hp,rp,rs,rfl,h1,c,a,b⟩:=h;exact⟨p,hp,rp,rs,rfl,k.tup h1,k.lst c,⟨k.lst a.1,λr m=>⟨(a.2 r m).1,k.lst (a.2 r m).2⟩⟩,b⟩
theorem jE.ev{p:Addr}(h:jE th tr H p)(k:Ev th C H H'):jE th tr H' p:=by
 obtain⟨v0,v1,v2,v3,h0,a,b,c,d⟩:=h;exact⟨v0,v1,v2,v3,k.lst h0,a.ev k,b.ev k,c.ev k,d.ev k⟩
noncomputable def ya(fs:List (V×Qn)):Nat:=(fs.map λg=>(post g.2).length).sum
theorem jr(a b:List (V×Qn)):ya (a ++ b)=ya a + ya b:=by simp [ya]
theorem z6x:∀fs:List (V×Qn),fs.length<=ya fs
 | []=>ww _
 | g :: r=>by
  have h1:=z6x r;have h2:=z70 g.2;have a:ya (g :: r)=(post g.2).length + ya r:=by simp [ya]
  rw [a,wJ]
  lia
inductive spLaw (K:W.Frag) (T4:Addr) (vs:List V) (H:Hp) (Q:VK) (E:XK):Prop
 | mk:∀a (ns:List Int),vs= [.ref a]->SqL K H a (ns.map V.int)->ns.length<=63->z1z H T4 za1 z9J->(∀H',Q (.bl true) H')->spLaw K T4 vs H Q E
theorem z2u:FnScope ["_law_script","_law_tables","_law_state","_law_handed","_law_found","_law_todo","_law_asked"] ["_law_script"] (zm z5B):=by walk_at "s"
theorem zdx(F:Fun K "law" "law" z5B f fd)(T:Txt K mg)(M:Kn P w K mg base 1 "_law_room" ["_law_script","_law_most","_law_bound"] (spRoom K))(o:Kn P w K mg base 1 "_law_stocked" ["_law_cells","_law_more"] (spStocked K))(u:Kn P w K mg base 10 "_law_grown" ["_law_cells","_law_tables"] (spGrown K))
  (D:Kn P w K mg base 1 "_law_again" ["_law_tables"] (spAgain K)) (O:Kn P w K mg base 12 "turnings" ["tables","question"] (spTurnings C T4)) (L:Kn P w K mg base 4 "_law_kept" ["_law_handed","_law_tables"] (spKept K)) (t:Kn P w K mg base 1 "_law_formed" ["_law_asked"] (spFormed K)) (I:Kn P w K mg base 163 "_law_forms" ["_law_asked","_law_tables"] (spForms K 2)) (i:Kn P w K mg base 160 "_law_headed_by" ["_law_asked","_law_tables"] (spHdBy K 160)) (G:Kn P w K mg base 1 "_law_texts" ["_law_found","_law_due"] (spTexts K)):FnOk P w K mg base CX0 164 f fd ["_law_script"] (spLaw K T4):=by
 refine F.okB z2u (λvs H Q E h=> ?_) (λvs H Q E h=> ?_)
 ·obtain⟨a,ns,rfl,_⟩:=h
  rfl
 obtain⟨a,ns,rfl,hS,hn,L4,q⟩:=h;intro ac A outer sh hr;have hu:=z1u hr;refine⟨_,(ze (seT 1 z2u (zV o hr.m (zl (j8 kj v0 (jn zb) (jn zb)) (zT (zV M hr.m (zf v0 (zo zb (zo zb zd)))) zd))))
  (ze (seT 2 z2u (zV u hr.m (zl (j8 kj v0 jx (jn zb)) (zf v1 zd))))
  (ze (seT 3 z2u (zV D hr.m (zf v1 zd)))
  (ze (seT 4 z2u (zV O hr.m (zf v3 (zl (ixT v2 zb) zd))))
  (ze (zF (PW.pt (z5n (yF (jq (zV L hr.m (zf v3 (zf v1 zd))))) (z5n (yF (jq (zQ j6 rfl T.isinstance wX (zf v4 (zf (yn (v:= .ty "list") rfl T.list qF rfl) zd))))) (z3S (cmT (z1L hu) v4 (zx zd))))))
   (zh (zt yt))
   zu)
  (ze (seT 5 z2u (zx (zl (ixL v4 (k8 yl zb)) zd)))
  (ze (z6r (cmT (z2G hu) v5 (zx zd))
   (ze (seT 6 z2u (z3i qj QR QS z3e v5))
   (ze (zF (PW.pt (z5n (yF (jq (zV t hr.m (zf (pv 6) zd)))) (z3S (cmT (z2G hu) (zV I hr.m (zf (pv 6) (zf v1 zd))) (zx zd)))))
    (zh (zt yt))
    zu)
   (ze (zF (cmT z14 (ixT (pv 6) zb) zi)
    (zh (jg (apP v5 (zl (ixT (pv 6) (k8 yl zb)) zd))))
    zu)
   (zh (zF (jR jO (ixT (pv 6) zb) (zx (zo zi (zo zi (zo zi zd)))) (by with_unfolding_all rfl))
    (zh (jg (apP v5 (zl (ixT (pv 6) (k8 yl zb)) zd))))
    zu))))))
  (zh (zt (zV G hr.m (zT (zV i hr.m (zl (ixL v4 (k8 yl zb)) (zf v1 zd))) (zl (ixT v2 zb) zd)))))))))))),?_⟩
 have ra:∀k:Nat,HT.sIx ns.length ns.length (some (k:Int))=min k ns.length/\HT.sIx ns.length 0 (some (k:Int))=min k ns.length:=λk=>by
  have hk:¬((k:Int) < 0):=by lia
  refine⟨?_,?_⟩ <;>
  ·show(if(k:Int) < 0 then((k:Int) + (ns.length:Int)).toNat else min (k:Int).toNat ns.length)=_
   rw [wM hk]
   rfl
 have c1:((ns.drop (HT.sIx ns.length 0 none)).take (HT.sIx ns.length ns.length (some 10) - HT.sIx ns.length 0 none)).length<=10:=by
  rw [wS,show HT.sIx ns.length ns.length (some 10)=_ from(ra 10).1]
  lia
 have c2:((ns.drop (HT.sIx ns.length 0 (some 10))).take (HT.sIx ns.length ns.length (some 22) - HT.sIx ns.length 0 (some 10))).length<=18:=by
  rw [wS,show HT.sIx ns.length ns.length (some 22)=_ from(ra 22).1,show HT.sIx ns.length 0 (some 10)=_ from(ra 10).2]
  lia
 refine !(!(!⟨a,!⟨hS,λl2 aF=> ?_⟩⟩));rw [z2B];refine zc (upd _ l2 _) rfl aF λH2 n2 x2=> ?_
 refine !⟨a,ns,8,180,rfl,n2.seq hS,hn,?_⟩;refine⟨l2,_,8,rfl,SqL.of x2,c2,by decide,by decide,λp th tr H4 n4 B f4=> ?_⟩;have uk:=n2.trans n4;refine !(!⟨a,!⟨uk.seq hS,λl1 fz=> ?_⟩⟩);rw [z2B];refine zc (upd _ l1 _) rfl fz λH5 n5 x5=> ?_
 refine !⟨l1,p,_,th,tr,rfl,SqL.of x5,by lia,B,f4.same n5,λv' qq used twice H6 n6 Ae gr hu ht=> ?_⟩;obtain⟨p',qv,hp,rp,rs,rfl,h1,h2,h3,h4,h5⟩:=Ae;have rb:=n5.trans n6;refine !⟨th,tr,p,rfl,B,f4.same rb,λp7 H7 n7 f7=> ?_⟩;have re:=z1w B gr.ok;have dY:depth qq<=25:=by have:=gr.dp;lia
 have Af:zv qq<=12:=wV gr.lv (w0K (show used<=3 from hu) (yR twice).2);have gM:=z9R gr.ok dY Af;have Ag:=uk.trans (rb.trans n7);refine !(!(zg (n7 _ _ h1) zD ⟨th,tr,qq,qv,p7,rfl,B,f7,h2.same n7,re,gM,L4.same Ag,λfl us q8 H8 e8 x8 N8 ap=> ?_⟩));have mN:=((f4.same rb).same n7).ev e8;have Ah:=f7.ev e8;have Ai:=e8.tup (n7 _ _ h1);have Aj:=e8.lst (n7 _ _ h3);obtain⟨E8,_,w8⟩:=N8.eqv B re;have d8:depth q8<=160:=by have:=zbb q8;have:=N8.pd;have:=zdN gr.ok;lia
 obtain⟨lB,v8,rfl,Ak⟩:=N8.last;refine !(!⟨th,tr,p7,p,rfl,B,Ah,mN,!?_⟩);refine ifF (by rfl) ?_;refine !⟨_,_,_,!⟨TyOf.lst x8,jZ,!?_⟩⟩;refine ifF (by rfl) ?_;refine !⟨(zq rfl),λep ao=> ?_⟩;refine zc (upd _ ep _) rfl ao λH9 n9 x9=> ?_
 refine⟨fl,ep,_,rfl,rfl,SqL.of (n9 _ _ x8),SqL.of x9,!?_⟩;refine ifF (by cases lB <;> rfl) ?_;have il:atI (lB ++ [v8]) (-1)=some v8:=z77 lB v8;refine !(!(zw (n9 _ _ x8) il ⟨(zq rfl),λtp Z=> ?_⟩));have mO:=mN.same n9;have ul:=Ak.same n9;have Al:(post q8).length<=4000:=wV (z5U q8) (wV w8 gM);refine z1E ?_;dsimp only;refine z2D ?_;refine z0H (λm σ H'=>∃(fs:List (V×Qn)) (o6:Option V),σ= [some (.ref a),some (.ref p),some (.ref p'),some (.ref p7),some (.ref fl),some (.ref tp),o6]/\zz H9 H'/\H' tp=some (.lst (fs.map (·.1)))/\(∀g∈fs,QAt H9 g.2 g.1/\nf th g.2/\wfQ th g.2/\depth g.2<=160)/\m=ya fs/\m<=4000) (ya [(v8,q8)])
  ⟨[(v8,q8)],none,rfl,zJ Z _,zj,by simpa using ⟨ul,ap,E8.wf,d8⟩,rfl,by simpa [ya]using Al⟩ ?_
 rintro m σ H' ⟨fs,o6,rfl,sH,um,hf,rfl,hm⟩;refine !⟨(zq rfl),λad ag=> ?_⟩;refine zc (upd _ ad _) rfl ag λG1 m1 y1=> ?_
 refine⟨tp,ad,_,rfl,rfl,SqL.of (m1 _ _ um),SqL.of y1,!?_⟩;have s1:=sH.trans m1;by_cases aq:fs= []
 ·subst aq;refine ifF (by rfl) ?_;refine !(!(zw (s1 _ _ (n9 _ _ x8)) il (!⟨th,tr,q8,v8,p,rfl,B,mO.same s1,ul.same s1,E8.wf,d8,λbD G2 m2 y2=> ?_⟩)));have hh:=(jK B re).2;rw [E8.h]at y2;exact !(zg (m2 _ _ (s1 _ _ (n9 _ _ Ai))) ji ⟨bD,hp,_,rfl,y2,SqL.of (m2 _ _ (s1 _ _ (n9 _ _ Aj))),by lia,q _⟩)
 ·obtain⟨gs,⟨gv,r⟩,rfl⟩:=z3J aq;refine ifT (by simp) ?_;refine⟨_,λσ' H' z=>z,?_⟩;have bQ:=m1 _ _ um;have e1:((gs ++ [(gv,r)]).map (·.1))=gs.map (·.1) ++ [gv]:=by rw [wC];rfl
  rw [e1]at bQ;rw [jr]at hm;have ff:ya [(gv,r)]=(post r).length:=by simp [ya]
  rw [ff]at hm;obtain⟨hg,X,U,Y⟩:=hf (gv,r) (by simp);replace hg:QAt H9 r gv:=hg;replace X:nf th r:=X;replace U:wfQ th r:=U;replace Y:depth r<=160:=Y;have cO:∀g∈gs,QAt H9 g.2 g.1/\nf th g.2/\wfQ th g.2/\depth g.2<=160:=λg h=>hf g (by simp [h])
  have xZ:=z6x gs;refine !⟨.inl ⟨rfl,_,SqL.of bQ⟩,tp,ex2 rfl rfl ⟨bQ,z1V _ _,?_⟩⟩;rw [w00];have s3:zz H9 (upd G1 tp (.lst (gs.map (·.1)))):=s1.put Z;have t3:upd G1 tp (.lst (gs.map (·.1))) tp=some (.lst (gs.map (·.1))):=zj;generalize upd G1 tp (.lst (gs.map (·.1)))=G3 at s3 t3 ⊢;refine !⟨r,gv,rfl,hg.same s3,λG4 m4=>!?_⟩;refine ifF rfl ?_;have s4:=s3.trans m4;refine !(!⟨th,tr,r,gv,p,rfl,by decide,(λz=>by cases z),B,mO.same s4,hg.same s4,U,Y,λl xs G5 m5 y5 fo=> ?_⟩);rw [zbY X]at fo;obtain rfl:xs= []:=fo.elim (λz=>z.2) λ⟨_,_,z,_⟩=>by cases z
  refine⟨(zq rfl),λak aj=> ?_⟩;refine zc (upd _ ak _) rfl aj λj m6 y6=> ?_
  refine⟨l,ak,_,rfl,rfl,SqL.of (m6 _ _ y5),SqL.of y6,!?_⟩;refine ifF rfl ?_;have e:=s4.trans (m5.trans m6);have N:=(m4.trans (m5.trans m6)) _ _ t3;have lt:∀{eS:List (V×Qn)},ya eS + 1<=ya gs + (post r).length->ya eS < ya (gs ++ [(gv,r)]):=λh=>by rw [jr,ff];lia
  cases r with
  | table z=>
   obtain⟨pg,rfl,b⟩:=hg;refine !(zg (e _ _ b) zD ⟨rfl,!?_⟩);refine ifF (by decide +kernel) ?_;refine !(zg (e _ _ b) zD ⟨(zq rfl),λlp J=> ?_⟩);refine zc (upd _ lp _) rfl J λG7 m7 y7=> ?_
   refine⟨lp,!⟨.inl (SqL.of y7),rfl,rfl,!?_⟩⟩;refine ifF (by decide +kernel) ?_;exact⟨ya gs,lt (by simp only [post,wD];lia),gs,_,rfl,e.trans m7,m7 _ _ N,cO,rfl,by lia⟩
  | pick c k=>
   obtain⟨pg,x,y,rfl,b,k2,R⟩:=hg;refine !(zg (e _ _ b) zD ⟨rfl,!?_⟩);refine ifT (by decide +kernel) ?_;refine !⟨.inl ⟨rfl,_,SqL.of N⟩,!(!(zg (e _ _ b) rfl ⟨tp,ex2 rfl rfl ⟨N,zG (by rw [w9];lia),?_⟩⟩))⟩;have d:zz H9 (upd j tp (.lst (gs.map (·.1) ++ [y]))):=e.put Z;have n:upd j tp (.lst (gs.map (·.1) ++ [y])) tp=some (.lst (gs.map (·.1) ++ [y])):=zj;generalize upd j tp (.lst (gs.map (·.1) ++ [y]))=G7 at d n ⊢;refine !(zg (d _ _ b) zD ⟨(zq rfl),λlp J=> ?_⟩);refine zc (upd _ lp _) rfl J λG8 s S=> ?_
   refine⟨lp,!⟨.inl (SqL.of S),rfl,rfl,!?_⟩⟩;refine ifF (by decide +kernel) ?_;have pl:(post k).length + 1=(post (.pick c k)).length:=by simp only [post,wb,wD]
   refine⟨ya (gs ++ [(y,k)]),lt (by rw [jr];simp only [ya,wR,qO,qR,Q6];lia),gs ++ [(y,k)],_,rfl,d.trans s,(s _ _ n).trans (by rw [wC];rfl),λg am=> ?_,rfl,by rw [jr];simp only [ya,wR,qO,qR,Q6]at hm ⊢;lia⟩;rcases wx.mp am with am | am
   ·exact cO g am
   ·rw [wu.mp am];exact⟨R,z0w X (by simp [kids]),U.2.2,by simp only [depth]at Y;show depth k<=160;lia⟩
  | cols z k=>
   obtain⟨pg,x,y,rfl,b,k2,R⟩:=hg;refine !(zg (e _ _ b) zD ⟨rfl,!?_⟩);refine ifT (by decide +kernel) ?_;refine !⟨.inl ⟨rfl,_,SqL.of N⟩,!(!(zg (e _ _ b) rfl ⟨tp,ex2 rfl rfl ⟨N,zG (by rw [w9];lia),?_⟩⟩))⟩;have d:zz H9 (upd j tp (.lst (gs.map (·.1) ++ [y]))):=e.put Z;have n:upd j tp (.lst (gs.map (·.1) ++ [y])) tp=some (.lst (gs.map (·.1) ++ [y])):=zj;generalize upd j tp (.lst (gs.map (·.1) ++ [y]))=G7 at d n ⊢;refine !(zg (d _ _ b) zD ⟨(zq rfl),λlp J=> ?_⟩);refine zc (upd _ lp _) rfl J λG8 s S=> ?_
   refine⟨lp,!⟨.inl (SqL.of S),rfl,rfl,!?_⟩⟩;refine ifF (by decide +kernel) ?_;have pl:(post k).length + 1=(post (.cols z k)).length:=by simp only [post,wb,wD]
   refine⟨ya (gs ++ [(y,k)]),lt (by rw [jr];simp only [ya,wR,qO,qR,Q6];lia),gs ++ [(y,k)],_,rfl,d.trans s,(s _ _ n).trans (by rw [wC];rfl),λg am=> ?_,rfl,by rw [jr];simp only [ya,wR,qO,qR,Q6]at hm ⊢;lia⟩;rcases wx.mp am with am | am
   ·exact cO g am
   ·rw [wu.mp am];exact⟨R,z0w X (by simp [kids]),U.2.2,by simp only [depth]at Y;show depth k<=160;lia⟩
  | first z k=>
   obtain⟨pg,y,rfl,b,R⟩:=hg;refine !(zg (e _ _ b) zD ⟨rfl,!?_⟩);refine ifT (by decide +kernel) ?_;refine !⟨.inl ⟨rfl,_,SqL.of N⟩,!(!(zg (e _ _ b) rfl ⟨tp,ex2 rfl rfl ⟨N,zG (by rw [w9];lia),?_⟩⟩))⟩;have d:zz H9 (upd j tp (.lst (gs.map (·.1) ++ [y]))):=e.put Z;have n:upd j tp (.lst (gs.map (·.1) ++ [y])) tp=some (.lst (gs.map (·.1) ++ [y])):=zj;generalize upd j tp (.lst (gs.map (·.1) ++ [y]))=G7 at d n ⊢;refine !(zg (d _ _ b) zD ⟨(zq rfl),λlp J=> ?_⟩);refine zc (upd _ lp _) rfl J λG8 s S=> ?_
   refine⟨lp,!⟨.inl (SqL.of S),rfl,rfl,!?_⟩⟩;refine ifF (by decide +kernel) ?_;have pl:(post k).length + 1=(post (.first z k)).length:=by simp only [post,wb,wD]
   refine⟨ya (gs ++ [(y,k)]),lt (by rw [jr];simp only [ya,wR,qO,qR,Q6];lia),gs ++ [(y,k)],_,rfl,d.trans s,(s _ _ n).trans (by rw [wC];rfl),λg am=> ?_,rfl,by rw [jr];simp only [ya,wR,qO,qR,Q6]at hm ⊢;lia⟩;rcases wx.mp am with am | am
   ·exact cO g am
   ·rw [wu.mp am];exact⟨R,z0w X (by simp [kids]),U.2,by simp only [depth]at Y;show depth k<=160;lia⟩
  | sort z k=>
   obtain⟨pg,y,rfl,b,R⟩:=hg;refine !(zg (e _ _ b) zD ⟨rfl,!?_⟩);refine ifT (by decide +kernel) ?_;refine !⟨.inl ⟨rfl,_,SqL.of N⟩,!(!(zg (e _ _ b) rfl ⟨tp,ex2 rfl rfl ⟨N,zG (by rw [w9];lia),?_⟩⟩))⟩;have d:zz H9 (upd j tp (.lst (gs.map (·.1) ++ [y]))):=e.put Z;have n:upd j tp (.lst (gs.map (·.1) ++ [y])) tp=some (.lst (gs.map (·.1) ++ [y])):=zj;generalize upd j tp (.lst (gs.map (·.1) ++ [y]))=G7 at d n ⊢;refine !(zg (d _ _ b) zD ⟨(zq rfl),λlp J=> ?_⟩);refine zc (upd _ lp _) rfl J λG8 s S=> ?_
   refine⟨lp,!⟨.inl (SqL.of S),rfl,rfl,!?_⟩⟩;refine ifF (by decide +kernel) ?_;have pl:(post k).length + 1=(post (.sort z k)).length:=by simp only [post,wb,wD]
   refine⟨ya (gs ++ [(y,k)]),lt (by rw [jr];simp only [ya,wR,qO,qR,Q6];lia),gs ++ [(y,k)],_,rfl,d.trans s,(s _ _ n).trans (by rw [wC];rfl),λg am=> ?_,rfl,by rw [jr];simp only [ya,wR,qO,qR,Q6]at hm ⊢;lia⟩;rcases wx.mp am with am | am
   ·exact cO g am
   ·rw [wu.mp am];exact⟨R,z0w X (by simp [kids]),U.2,by simp only [depth]at Y;show depth k<=160;lia⟩
  | group z1 z2 z3 z4 k=>
   obtain⟨pg,y,rfl,b,R⟩:=hg;refine !(zg (e _ _ b) zD ⟨rfl,!?_⟩);refine ifT (by decide +kernel) ?_;refine !⟨.inl ⟨rfl,_,SqL.of N⟩,!(!(zg (e _ _ b) rfl ⟨tp,ex2 rfl rfl ⟨N,zG (by rw [w9];lia),?_⟩⟩))⟩;have d:zz H9 (upd j tp (.lst (gs.map (·.1) ++ [y]))):=e.put Z;have n:upd j tp (.lst (gs.map (·.1) ++ [y])) tp=some (.lst (gs.map (·.1) ++ [y])):=zj;generalize upd j tp (.lst (gs.map (·.1) ++ [y]))=G7 at d n ⊢;refine !(zg (d _ _ b) zD ⟨(zq rfl),λlp J=> ?_⟩);refine zc (upd _ lp _) rfl J λG8 s S=> ?_
   refine⟨lp,!⟨.inl (SqL.of S),rfl,rfl,!?_⟩⟩;refine ifF (by decide +kernel) ?_;have pl:(post k).length + 1=(post (.group z1 z2 z3 z4 k)).length:=by simp only [post,wb,wD]
   refine⟨ya (gs ++ [(y,k)]),lt (by rw [jr];simp only [ya,wR,qO,qR,Q6];lia),gs ++ [(y,k)],_,rfl,d.trans s,(s _ _ n).trans (by rw [wC];rfl),λg am=> ?_,rfl,by rw [jr];simp only [ya,wR,qO,qR,Q6]at hm ⊢;lia⟩;rcases wx.mp am with am | am
   ·exact cO g am
   ·rw [wu.mp am];exact⟨R,z0w X (by simp [kids]),U.2.2.2,by simp only [depth]at Y;show depth k<=160;lia⟩
  | pair k k'=>
   obtain⟨pg,x,y,rfl,b,k2,R⟩:=hg;refine !(zg (e _ _ b) zD ⟨rfl,!?_⟩);refine ifT (by decide +kernel) ?_;refine !⟨.inl ⟨rfl,_,SqL.of N⟩,!(!(zg (e _ _ b) rfl ⟨tp,ex2 rfl rfl ⟨N,zG (by rw [w9];lia),?_⟩⟩))⟩;have d:zz H9 (upd j tp (.lst (gs.map (·.1) ++ [y]))):=e.put Z;have n:upd j tp (.lst (gs.map (·.1) ++ [y])) tp=some (.lst (gs.map (·.1) ++ [y])):=zj;generalize upd j tp (.lst (gs.map (·.1) ++ [y]))=G7 at d n ⊢;refine !(zg (d _ _ b) zD ⟨(zq rfl),λlp J=> ?_⟩);refine zc (upd _ lp _) rfl J λG8 s S=> ?_
   refine⟨lp,!⟨.inl (SqL.of S),rfl,rfl,!?_⟩⟩;refine ifT (by decide +kernel) ?_;have t8:=s _ _ n;have s8:=d.trans s;refine !⟨.inl ⟨rfl,_,SqL.of t8⟩,!(!(zg (s8 _ _ b) rfl ⟨tp,ex2 rfl rfl ⟨t8,zG (by rw [wb,w9,wD];lia),?_⟩⟩))⟩;have pl:(post k).length + (post k').length + 1=(post (.pair k k')).length:=by simp only [post,wb,wD]
   refine⟨ya (gs ++ [(y,k'),(x,k)]),lt (by rw [jr];simp only [ya,wR,qO,qR,Q6];lia),gs ++ [(y,k'),(x,k)],_,rfl,s8.put Z,(show _=some (HO.lst _)from zj).trans (by rw [wC,Q9];rfl),λg am=> ?_,rfl,by rw [jr];simp only [ya,wR,qO,qR,Q6]at hm ⊢;lia⟩;rcases wx.mp am with am | am
   ·exact cO g am
   ·rcases wE.mp am with rfl | am
    ·exact⟨R,z0w X (by simp [kids]),U.2.2.2,by simp only [depth]at Y;show depth k'<=160;lia⟩
    ·rw [wu.mp am];exact⟨k2,z0w X (by simp [kids]),U.2.2.1,by simp only [depth]at Y;show depth k<=160;lia⟩
  | both k k'=>
   obtain⟨pg,x,y,rfl,b,k2,R⟩:=hg;refine !(zg (e _ _ b) zD ⟨rfl,!?_⟩);refine ifT (by decide +kernel) ?_;refine !⟨.inl ⟨rfl,_,SqL.of N⟩,!(!(zg (e _ _ b) rfl ⟨tp,ex2 rfl rfl ⟨N,zG (by rw [w9];lia),?_⟩⟩))⟩;have d:zz H9 (upd j tp (.lst (gs.map (·.1) ++ [y]))):=e.put Z;have n:upd j tp (.lst (gs.map (·.1) ++ [y])) tp=some (.lst (gs.map (·.1) ++ [y])):=zj;generalize upd j tp (.lst (gs.map (·.1) ++ [y]))=G7 at d n ⊢;refine !(zg (d _ _ b) zD ⟨(zq rfl),λlp J=> ?_⟩);refine zc (upd _ lp _) rfl J λG8 s S=> ?_
   refine⟨lp,!⟨.inl (SqL.of S),rfl,rfl,!?_⟩⟩;refine ifT (by decide +kernel) ?_;have t8:=s _ _ n;have s8:=d.trans s;refine !⟨.inl ⟨rfl,_,SqL.of t8⟩,!(!(zg (s8 _ _ b) rfl ⟨tp,ex2 rfl rfl ⟨t8,zG (by rw [wb,w9,wD];lia),?_⟩⟩))⟩;have pl:(post k).length + (post k').length + 1=(post (.both k k')).length:=by simp only [post,wb,wD]
   refine⟨ya (gs ++ [(y,k'),(x,k)]),lt (by rw [jr];simp only [ya,wR,qO,qR,Q6];lia),gs ++ [(y,k'),(x,k)],_,rfl,s8.put Z,(show _=some (HO.lst _)from zj).trans (by rw [wC,Q9];rfl),λg am=> ?_,rfl,by rw [jr];simp only [ya,wR,qO,qR,Q6]at hm ⊢;lia⟩;rcases wx.mp am with am | am
   ·exact cO g am
   ·rcases wE.mp am with rfl | am
    ·exact⟨R,z0w X (by simp [kids]),U.2.2,by simp only [depth]at Y;show depth k'<=160;lia⟩
    ·rw [wu.mp am];exact⟨k2,z0w X (by simp [kids]),U.2.1,by simp only [depth]at Y;show depth k<=160;lia⟩
  | join z1 z2 k k'=>
   obtain⟨pg,x,y,rfl,b,k2,R⟩:=hg;refine !(zg (e _ _ b) zD ⟨rfl,!?_⟩);refine ifT (by decide +kernel) ?_;refine !⟨.inl ⟨rfl,_,SqL.of N⟩,!(!(zg (e _ _ b) rfl ⟨tp,ex2 rfl rfl ⟨N,zG (by rw [w9];lia),?_⟩⟩))⟩;have d:zz H9 (upd j tp (.lst (gs.map (·.1) ++ [y]))):=e.put Z;have n:upd j tp (.lst (gs.map (·.1) ++ [y])) tp=some (.lst (gs.map (·.1) ++ [y])):=zj;generalize upd j tp (.lst (gs.map (·.1) ++ [y]))=G7 at d n ⊢;refine !(zg (d _ _ b) zD ⟨(zq rfl),λlp J=> ?_⟩);refine zc (upd _ lp _) rfl J λG8 s S=> ?_
   refine⟨lp,!⟨.inl (SqL.of S),rfl,rfl,!?_⟩⟩;refine ifT (by decide +kernel) ?_;have t8:=s _ _ n;have s8:=d.trans s;refine !⟨.inl ⟨rfl,_,SqL.of t8⟩,!(!(zg (s8 _ _ b) rfl ⟨tp,ex2 rfl rfl ⟨t8,zG (by rw [wb,w9,wD];lia),?_⟩⟩))⟩;have pl:(post k).length + (post k').length + 1=(post (.join z1 z2 k k')).length:=by simp only [post,wb,wD]
   refine⟨ya (gs ++ [(y,k'),(x,k)]),lt (by rw [jr];simp only [ya,wR,qO,qR,Q6];lia),gs ++ [(y,k'),(x,k)],_,rfl,s8.put Z,(show _=some (HO.lst _)from zj).trans (by rw [wC,Q9];rfl),λg am=> ?_,rfl,by rw [jr];simp only [ya,wR,qO,qR,Q6]at hm ⊢;lia⟩;rcases wx.mp am with am | am
   ·exact cO g am
   ·rcases wE.mp am with rfl | am
    ·exact⟨R,z0w X (by simp [kids]),U.2.2.2.2.2,by simp only [depth]at Y;show depth k'<=160;lia⟩
    ·rw [wu.mp am];exact⟨k2,z0w X (by simp [kids]),U.2.2.2.2.1,by simp only [depth]at Y;show depth k<=160;lia⟩
end
structure DI(K:W.Frag)(x:Str)(st:Stmt)(f:Addr):Prop where
 ex:∃fd,Fun K x x st f fd
 a:PySem.W.nsIn K mainGlobals x=some (some (.ref f))
 k:PySem.W.keepIn K (.ref f)=true
structure DL(K:W.Frag)(x:Str)(st:Stmt)(f T:Addr):Prop where
 ex:∃fd c,Fun K x x st f fd/\fd.code= .ref c/\PySem.W.codeHdIn K c T=true
 a:PySem.W.nsIn K mainGlobals x=some (some (.ref f))
 k:PySem.W.keepIn K (.ref f)=true
structure Wd(P:Program)(w:World)(K:W.Frag)(mg:Str->Option Value)(base:Heap):Prop where
 ex:∃h:Heap,K.In h/\h.Ns mainGlobals mg
 kb:K.In base
variable{z:Str}
section
variable{K:W.Frag}{x y:Str}{st:Stmt}{f T:Addr}{k:Nat}{ps:List Str}{oc kV aR pm ac ct:Value}{od an:Option Addr}{cu:Array (Option Value)}
def di(a:PySem.W.nsIn K mainGlobals x=some (some (.ref f)))(l:K.lookup f=some ⟨oc,od,.func (PySem.W.fnOf x x (z0g st) (ym st) (zm st) .none kV aR pm an ac ct),cu⟩)(c:PySem.W.codeIn K ac x=true)(h:PySem.W.keepIn K (.ref f)=true):DI K x st f:=⟨⟨_,z69 l c h⟩,a,h⟩
theorem dl(a:PySem.W.nsIn K mainGlobals x=some (some (.ref f)))(l:K.lookup f=some ⟨oc,od,.func (PySem.W.fnOf x x (z0g st) (ym st) (zm st) .none kV aR pm an ac ct),cu⟩)(c:PySem.W.codeIn K ac x=true)(h:PySem.W.keepIn K (.ref f)=true)(t:L2.codeOf K ac T=true):DL K x st f T:=by
 obtain⟨c',rfl,z⟩:=L2.codeOf_ex t;exact⟨⟨_,c',z69 l c h,rfl,z⟩,a,h⟩
def Wd.gl{v:Value}(W:Wd P w K mg base)(a:PySem.W.nsIn K mainGlobals x=some (some v)):mg x=some v:=let ⟨_,X,G⟩:=W.ex;PySem.W.mg_of X G a
theorem kn(W:Wd P w K mg base)(d:DI K x st f)(ok:∀{fd},Fun K x x st f fd->FnOk P w K mg base CX0 k f fd ps sp)(b:∀{fd},Fun K x x st f fd->Binds K fd ps []:=by first | exact λF=>F.binds λ_ _ _ _ _ _=>zc1 λ_=>rfl | exact λF=>F.binds λ_ _ _ _ _ _=>zb7 λ_ _=>rfl | exact λF=>F.binds λ_ _ _ _ _ _=>zcb λ_ _ _=>rfl | exact λF=>F.binds λ_ _ _ _ _ _=>zdz λ_ _ _ _=>rfl):Kn P w K mg base k x ps sp:=
 let ⟨_,F⟩:=d.ex
 ⟨_,_,ok F,W.gl d.a,d.k,b F⟩
theorem knR(W:Wd P w K mg base)(d:DI K x st f)(ok:∀{fd},Fun K x x st f fd->(∀(kk:Nat) (c:Sp),FnOk P w K mg base CX0 kk f fd ps c->Kn P w K mg base kk x ps c)->FnOk P w K mg base CX0 k f fd ps sp)(b:∀{fd},Fun K x x st f fd->Binds K fd ps []:=by first | exact λF=>F.binds λ_ _ _ _ _ _=>zc1 λ_=>rfl | exact λF=>F.binds λ_ _ _ _ _ _=>zb7 λ_ _=>rfl | exact λF=>F.binds λ_ _ _ _ _ _=>zcb λ_ _ _=>rfl):Kn P w K mg base k x ps sp:=
 let ⟨_,F⟩:=d.ex
 ⟨_,_,ok F λ_ _ h=>⟨_,_,h,W.gl d.a,d.k,b F⟩,W.gl d.a,d.k,b F⟩
theorem knS{sp:SpS}(W:Wd P w K mg base)(d:DI K x st f)(ok:∀{fd},Fun K x x st f fd->FnOkS P w K mg base CX0 k f fd ps sp)(b:∀{fd},Fun K x x st f fd->Binds K fd ps []:=by exact λF=>F.binds λ_ _ _ _ _ _=>zb7 λ_ _=>rfl):KnS P w K mg base CX0 k x ps sp:=
 let ⟨_,F⟩:=d.ex
 ⟨_,_,ok F,W.gl d.a,d.k,b F⟩
structure DM(K:W.Frag)(C:Addr)(x y:Str)(st:Stmt)(f:Addr):Prop where
 ex:∃fd,Fun K x y st f fd
 a:PySem.W.findIn K (.ref C) x=some (some (.ref f))
 n:PySem.W.isFn K (.ref f)=true
 k:PySem.W.keepIn K (.ref f)=true
structure DN(K:W.Frag)(C:Addr)(x y:Str)(st:Stmt)(f T:Addr):Prop where
 ex:∃fd c,Fun K x y st f fd/\fd.code= .ref c/\PySem.W.codeHdIn K c T=true
 a:PySem.W.findIn K (.ref C) x=some (some (.ref f))
 n:PySem.W.isFn K (.ref f)=true
structure DC(K:W.Frag)(x:Str)(C:Addr):Prop where
 a:PySem.W.nsIn K mainGlobals x=some (some (.ref C))
 m:PySem.W.makesIn K C=true
 k:PySem.W.keepIn K (.ref C)=true
def dm(a:PySem.W.findIn K (.ref C) x=some (some (.ref f)))(l:K.lookup f=some ⟨oc,od,.func (PySem.W.fnOf x y (z0g st) (ym st) (zm st) .none kV aR pm an ac ct),cu⟩)(c:PySem.W.codeIn K ac y=true)(h:PySem.W.keepIn K (.ref f)=true)(n:PySem.W.isFn K (.ref f)=true):DM K C x y st f:=⟨⟨_,z69 l c h⟩,a,n,h⟩
theorem dn(a:PySem.W.findIn K (.ref C) x=some (some (.ref f)))(l:K.lookup f=some ⟨oc,od,.func (PySem.W.fnOf x y (z0g st) (ym st) (zm st) .none kV aR pm an ac ct),cu⟩)(c:PySem.W.codeIn K ac y=true)(h:PySem.W.keepIn K (.ref f)=true)(n:PySem.W.isFn K (.ref f)=true)(t:L2.codeOf K ac T=true):DN K C x y st f T:=by
 obtain⟨c',rfl,z⟩:=L2.codeOf_ex t;exact⟨⟨_,c',z69 l c h,rfl,z⟩,a,n⟩
def dc(a:PySem.W.nsIn K mainGlobals x=some (some (.ref C)))(m:PySem.W.makesIn K C=true)(h:PySem.W.keepIn K (.ref C)=true):DC K x C:=⟨a,m,h⟩
theorem knM(W:Wd P w K mg base)(c:Cls K C)(d:DM K C x y st f)(ok:∀{fd},Fun K x y st f fd->FnOk P w K mg base CX0 k f fd ps sp)(b:∀{fd},Fun K x y st f fd->Binds K fd ps []:=by first | exact λF=>F.binds λ_ _ _ _ _ _=>zc1 λ_=>rfl | exact λF=>F.binds λ_ _ _ _ _ _=>zb7 λ_ _=>rfl):KnM P w K mg base k x ps sp C:=
 let ⟨_,F⟩:=d.ex
 ⟨c,_,_,⟨d.a,d.n,d.k⟩,ok F,b F⟩
theorem knC(W:Wd P w K mg base)(e:DC K z C)(d:DM K C "__init__" y st f)(ok:∀{fd},Fun K "__init__" y st f fd->FnOk P w K mg base CX0 k f fd ps sp)(b:∀{fd},Fun K "__init__" y st f fd->Binds K fd ps []:=by exact λF=>F.binds λ_ _ _ _ _ _=>zdz λ_ _ _ _=>rfl):KnC P w K mg base k z ps sp C:=
 let ⟨_,F⟩:=d.ex
 ⟨_,_,⟨e.m,d.a,d.n,e.k⟩,ok F,W.gl e.a,b F⟩
theorem knN(W:Wd P w K mg base)(e:DC K z C)(d:DN K C "__init__" y st f T)(ok:∀{fd c},Fun K "__init__" y st f fd->fd.code= .ref c->PySem.W.CodeHd base c T->FnOk P w K mg base CX0 k f fd ps sp)(b:∀{fd},Fun K "__init__" y st f fd->Binds K fd ps []:=by exact λF=>F.binds λ_ _ _ _ _ _=>zcb λ_ _ _=>rfl):KnC P w K mg base k z ps sp C:=
 let ⟨_,_,F,hc,h⟩:=d.ex
 ⟨_,_,⟨e.m,d.a,d.n,e.k⟩,ok F hc (PySem.W.codeHd_of_K W.kb h),W.gl e.a,b F⟩
end
variable{l:PySem.W.OpenLaw}
theorem all_mk{K:W.Frag}{h:Heap}{x f0 f1 f2 f3 f4 f5 f6 f7 f8 f9 nQ nR N nU nV nW nX nY nZ o0 oa Am An Ao Ap Aq As Au Av Aw Ax Ay Az AA AB AC AD AE AF AG AH AI AJ AK AL AM AN AO mN mO AQ AR AS AT AU AV j f d:Addr}(X:K.In h)(G:h.Ns mainGlobals mg)(AW:mg "law"=some (.ref x))
  (AX:DC K "Place" f) (b:PC K f)
  (AY:DC K "Turner" d) (c:TC K d)
  (d0:DI K "columns_of" z1k f0)
  (d1:DI K "straight_within" kE f1)
  (d2:DI K "inner_first" z0S f2)
  (d3:DI K "built_up" z2r f3)
  (d4:DI K "heads_of_table" kL f4)
  (d5:DI K "check_columns" z0e f5)
  (d6:DI K "each_once" z1M f6)
  (d7:DI K "heads_over_one" kH f7)
  (d8:DI K "heads_over_two" kM f8)
  (d9:DI K "heads_at" z2v f9)
  (AZ:DI K "_law_texts" z1o nQ)
  (B0:DI K "_law_whole" z1d nR)
  (B2:DI K "_law_numbers" z0u N)
  (B3:DI K "_law_alike" z1m nU)
  (B4:DI K "_law_again" kr nV)
  (B5:DI K "_law_kept" z1B nW)
  (B6:DI K "_law_stocked" jQ nX)
  (B7:DI K "_law_spelt" ko nY)
  (B8:DI K "_law_true" z00 nZ)
  (B9:DI K "_law_asking" z0W o0)
  (Ba:DI K "_law_picked" kU oa)
  (Bb:DI K "_law_columns" yg Am)
  (Bc:DI K "_law_sorted" kR An)
  (Bd:DI K "_law_headed" z0X Ao)
  (Be:DI K "_law_doubled" z0t Ap)
  (Bf:DI K "_law_beside" z0M Aq)
  (Bg:DI K "_law_united" kZ As)
  (Bh:DI K "_law_counted" yj Au)
  (Bi:DI K "_law_grown" z1i Av)
  (Bj:DM K f "__init__" "Place.__init__" z0m Aw)
  (Bk:DI K "is_pick" z3h Ax)
  (Bl:DI K "picked" z4s Ay)
  (Bm:DI K "among" z3O Az)
  (Bn:DI K "joined_by" z1J AA)
  (Bo:DI K "sent_to_a_part" kQ AB)
  (Bp:DI K "sent_within" kT AC)
  (Bq:DI K "takes" z5W AD)
  (Br:DI K "passes" z3W AE)
  (Bs:DI K "turned_pick" z0P AF)
  (Bt:DI K "turned_first" z0y AG)
  (Bu:DI K "turned" z3T AH)
  (Bv:DI K "place_over" z0i AI)
  (Bw:DN K d "__init__" "Turner.__init__" kY AJ j)
  (Bx:DM K d "go_within" "Turner.go_within" yU AK)
  (By:DM K d "go_back" "Turner.go_back" kG AL)
  (Bz:DM K d "turn" "Turner.turn" yL AM)
  (BA:DM K d "whole" "Turner.whole" kg AN)
  (BB:DI K "_law_room" z1A AO)
  (BC:DI K "turnings" z2k mN)
  (BD:DI K "_law_headed_by" yc mO)
  (BE:DI K "_law_named" z0l AQ)
  (BF:DI K "_law_parted" yP AR)
  (BG:DI K "_law_folded" z0V AS)
  (BH:DI K "_law_forms" z0o AT)
  (BI:DI K "_law_formed" z0T AU)
  (D:DI K "law" z5B AV)
  (z0:PySem.W.nsIn K mainGlobals "isinstance"=some none)
  (L:PySem.W.nsIn K mainGlobals "int"=some none)
  (Y:PySem.W.nsIn K mainGlobals "bool"=some none)
  (z3:PySem.W.nsIn K mainGlobals "list"=some none)
  (z4:PySem.W.nsIn K mainGlobals "tuple"=some none)
  (z5:PySem.W.nsIn K mainGlobals "str"=some none)
  (z6:PySem.W.nsIn K mainGlobals "len"=some none)
  (z7:PySem.W.nsIn K mainGlobals "range"=some none)
  (z8:PySem.W.nsIn K mainGlobals "min"=some none)
  (z9:PySem.W.nsIn K mainGlobals "max"=some none)
  (BJ:PySem.W.nsIn K mainGlobals "sum"=some none)
  (Z:PySem.W.nsIn K mainGlobals "sorted"=some none)
  (BL:PySem.W.nsIn K mainGlobals "reversed"=some none)
  (BM:PySem.W.nsIn K mainGlobals "zip"=some none)
  {n:Addr} {BN:Option Addr} {BO:Array (Option Value)} {nT:Nat} {t3 t4 t5:Tok} (aT:PySem.W.nsIn K mainGlobals "TWOFOLD"=some (some (.ref n))) (lT:K.lookup n=some ⟨.type "tuple",BN,.seq #[.str "pair" t3,.str "join" t4,.str "both" t5] nT,BO⟩)
  (zs:PySem.W.nsIn K mainGlobals "set"=some none)
  (BP:PySem.W.nsIn K mainGlobals "enumerate"=some none) (BQ:PySem.W.nsIn K mainGlobals "all"=some none)
  :∃fd:FuncData,(∀(s:Shared) (v:Value),BindsTo s fd ⟨[v],[]⟩ [("_law_script",v)])/\∀base:Heap,K.In base->base.Ns mainGlobals mg->(∀T∈ [j],base.BuiltinsAt mg T)->FnOk l.prog w K mg base CX0 164 x fd ["_law_script"] (spLaw K j):=by
 have e:=AW.symm.trans (PySem.W.mg_of X G D.a);cases e;have T:Txt K mg:=⟨qI X G z0,qI X G L,qI X G Y,qI X G z3,qI X G z4,qI X G z5,qI X G z6,qI X G z7,qI X G z8,qI X G z9,qI X G BJ,qI X G Z,qI X G BL,qI X G BM⟩;have R:TxtP K mg:=⟨qI X G zs,⟨n,PySem.W.mg_of X G aT,λH=> .inr ⟨_,_,_,lT,rfl,rfl,(by show 3<=sizeLine;decide),.cons ⟨_,rfl⟩ (.cons ⟨_,rfl⟩ (.cons ⟨_,rfl⟩ .nil))⟩⟩⟩;have M:TxtM K mg:=⟨qI X G BQ,qI X G BP⟩;obtain⟨fd,F⟩:=D.ex;obtain⟨oc,od,kV,dc,pm,an,cd,ct,sl,rfl,lk,aB⟩:=id F.ex;refine⟨PySem.W.fnOf "law" "law" (z0g z5B) (ym z5B) (zm z5B) .none kV dc pm an cd ct,λs v=> .of_eq rfl,λbase lP _ hB=> ?_⟩;have W:Wd l.prog w K mg base:=⟨⟨h,X,G⟩,lP⟩;have A:=kn W d0 λF=>z4N F T
 have E:=kn W d1 λF=>z2w F T R
 have n2:=kn W d2 λF=>z4c F T E
 have U:=knS W d3 λF=>z6n (k:=8) (by decide) F T n2 E
 have n4:=kn W d4 λF=>z2R F T
 have J:=kn W d5 λF=>z3a F T
 have p:=kn W d6 λF=>z5I F T R
 have n7:=kn W d7 λF=>z2V F T J A p
 have n8:=kn W d8 λF=>z2M F T J p
 have n9:=kn W d9 λF=>z6Q F T n4 n7 n8
 have I:=kn W AZ λF=>z4U F T
 have bJ:=kn W B0 λF=>z4L F T
 have n12:=kn W B2 λF=>z3B F T bJ
 have ak:=kn W B3 λF=>z4J F T n12
 have ay:=kn W B4 λF=>z4T F T
 have aV:=kn W B5 λF=>z6d F T I ak
 have bO:=kn W B6 λF=>z3E F T
 have aW:=knR (k:=7) W B7 λF r=>z2e F T r 7
 have bx:=knR (k:=7) W B8 λF r=>z2Q F T r 7
 have O:=kn W B9 λF=>z49 F T
 have t:=kn W Ba λF=>z4B F T O bx aW
 have BR:=kn W Bb λF=>z3F F T
 have B:=kn W Bc λF=>z42 F T
 have u:=kn W Bd λF=>z4q F T
 have mL:=kn W Be λF=>z3u F T t
 have BS:=kn W Bf λF=>z45 F T
 have BT:=kn W Bg λF=>z3Z F T B u
 have BU:=kn W Bh λF=>z3C F T
 have BV:=kn W Bi λF=>z4K F T t BR BT BS mL u BU B
 have i:=knC W AX Bj λF=>z4O F T b
 have q:=kn (sp:=(spIsPick f)) W Bk λF=>z7d F T b
 have o:=kn W Bl λF=>z8O F T b i
 have BW:=kn W Bm λF=>zaV F T M
 have BX:=kn W Bn λF=>z5Q F T b i
 have P:=kn W Bo λF=>z30 F T b i A BW o BX
 have z:=kn W Bp λF=>z4n F T b i o P
 have BZ:=kn (sp:=(spTakes f)) W Bq λF=>zaJ F T z
 have gk:=kn W Br λF=>z9d F T b q BZ
 have gO:=kn W Bs λF=>z4A F T b q z gk o
 have gP:=kn W Bt λF=>z3z F T b i
 have Q:=kn W Bu λF=>z9j F T b i gO gP
 have C3:=kn W Bv λF=>z4S F T b i n9
 have C4:=knN (sp:=(spTInit f d j)) W AY Bw λF hc C=>z43 F T c hc C (hB _ (by simp)) U C3
 have C5:=knM (sp:=(spGoW f d)) W c.cls Bx λF=>z2a F T b c
 have C6:=knM (sp:=(spGoB f d)) W c.cls By λF=>z2P F T b c i
 have C7:=knM (sp:=(spTurn f d)) W c.cls Bz λF=>z4o F T M b c C6 C5 Q
 have eu:=knM (sp:=(spTWhole f d)) W c.cls BA λF=>z3y F T b c
 have C8:=kn W BB λF=>z64 F T
 have C9:=kn (sp:=(spTurnings f j)) W BC λF=>z6D F T C4 C7 eu
 have y:=knR (k:=160) W BD λF r=>z0B F T r 160
 have S:=kn W BE λF=>z4W F T
 have Cb:=kn W BF λF=>z4r F T y S
 have Cc:=kn W BG λF=>z4p F T
 have Cd:=knR (k:=163) W BH λF r=>z2d F T Cc Cb r 2
 have Ce:=kn W BI λF=>z4G F T
 exact zdx F T C8 bO BV ay C9 aV Ce Cd y I
theorem walk{q:Program}{loose:List Str}{o:(Str->Option Value)->Heap->Prop}{e:World->Heap->Prop}{d:DefRec}{K:Params->W.Frag}{b:Addr}(hn:l.most=some 63)(p:d.params.defaults= [])
  (r:∀(w:World) (h:Heap),e w h->(K w.params).In h/\∀T∈ [b],h.get? T=some (PySem.W.tabObj #[])) (y:∀(w:World),∀T∈ [b],L2.codeTabIn (K w.params) T=true) (j:∀(w:World),∀T∈ [b],(K w.params).lookup T=none)
  (F:∀(w:World) (mg:Str->Option Value) (c:Addr) (h:Heap),(K w.params).In h->h.Ns mainGlobals mg->mg d.name=some (.ref c)->
   ∃fd:FuncData,(∀(s:Shared) (u:Value),BindsTo s fd ⟨[u],[]⟩ [("_law_script",u)])/\∀base:Heap,(K w.params).In base->base.Ns mainGlobals mg->(∀T∈ [b],base.BuiltinsAt mg T)->FnOk l.prog w (K w.params) mg base CX0 164 c fd ["_law_script"] (spLaw (K w.params) b)):
  PySem.W.WalkO q loose o e l.row.toRowW d [] (λf vs=>PySem.call f vs):=
 L2.walk_ofT (n:=63) (k:=164) (x:="_law_script") (sp:=λw=>spLaw (K w.params) b) hn (by decide) p ⟨rfl,by decide,by decide⟩ r y j F λ_ _ a ns hl i t=>⟨a,ns,rfl,i,hl,.inl (t _ (by simp)),λ_=>rfl⟩
end Q12
structure PySem.W.Fast:Prop where
 (tw10118274701947305191 tw10209724317469405045 tw17489300152311989109 tw10183568670251392529 tw133747538622079888 tw3962726521848694663 tw1766948714113237935 tw2653027138850230760 tw14612087100572988145 tw15793787226297868418 tw16826150182146721657 tw2831477468423718335 tw1046668306221329073 tw13009157482708505831 tw5861126160419577449 tw10451290574573558535 tw14999858577756028283 tw3925158602693152821 tw6869510803114071412 tw12482325016809970652 tw12470252010485967358 tw8419352543666925680 tw1936405061487253332 tw1364969073952343722 tw5702160345788431724 tw1343939672610935493 tw2847934496395430986 tw4057009726064781345 tw2364254451927078751 tw5924063234612520512 tw9949744788766835552 tw16133817226848991697 tw10684160176753446742 tw4135052628112470143 tw2373063186867755183 tw14099965560734036168 tw964477539710537077 tw5254699975178834976 tw9065978923350358307 tw15592330564936374109 tw14269785115707078020 tw7498581432109127730 tw15948293860685596391 tw487381443291957344 tw5034117725457954037 tw16448188561585289547 tw12663786957512221362 tw10497734926266730968 tw1973471660258142070 tw3366402170248852980 tw7258863649541659065 tw12602724070758074727 tw3556371274523770592 tw14623427815664290112 tw11379847439286374432 tw10994208614267931589 tw12185613624941013367 tw17951330819390513203 tw8118096929591859754 tw13571653577556746095 tw1769803180229530101 tw1750322856317311491 tw11102026006978582661 tw16425274181628785629 tw3286647225998294998 tw15311982462799484857 tw17755518389689115119 tw10618415019239245770 tw9980565924593181836 tw17199249368264570827 tw12089894155657789052 tw17778307853348931649 tw6481224406190651139 tw8481166287939578868 tw17158003045848516302 tw16356654747946800436 tw8458492327439661347 tw1279916647038932120 tw16873115518022094400 tw2469943867143704022 tw10361999659960393182 tw18256957983014507438 tw10663523205710540760 tw6921493315707023498 tw971079890814560536 tw15262756693624525189 tw7128390686857072618 tw2011351410323439804 tw17222571422314671784 tw14432481788302423345 tw3764905906336573862 tw1727703890130843990 tw3638294513366891367 tw17156450391547647579 tw900482826094845093 tw16281081555377918114 tw2493225596424195794 tw6437549749065073008 tw9970714613753635279 tw4428747291240234025 tw10220400289306868023 tw5755779079530984258 tw7132072693044129018 tw17069535760017127671 tw8885758466874235398 tw12040528078366116304 tw16625341218287917985 tw18329277688597081182 tw6378133006566385692 tw3454651363131958927 tw6360279135183964784 tw18163290133153867058 tw9171818473700211828 tw5145166313845843209 tw13784484163226631194 tw2381403661831870603 tw1198510957038274272 tw4511168302565889060 tw8916369115711583769 tw6234852045301522414 tw11367739580641748137 tw13288813821737027095 tw3738329883389733529 tw951647648931022579 tw5766529688039960915 tw7269905895748979801 tw14176720998309548830 tw10614613747506050359 tw17671562733628171740 tw2398439380956278882 tw9032406187459376641 tw173447124411335329 tw17373669248093693429 tw473846334101709713 tw3263157139835701046 tw7557830917230105787 tw7569146904695183860 tw4197516658224351010 tw2434753352443456613 tw124220345279858366 tw13680689025226892811 tw3394338697073214995 tw2573211414651627297 tw1360497222367760341 tw7892652771659831573 tw1011220748383018057 tw16128931127207062917 tw4642920524461229489 tw12616345850296139669 tw14515781722915410765 tw16090323730081610656 tw6298925953463547840 tw15863727611524843030 tw1346814370900236152 tw11423519253473523341 tw8378369990050680758 tw15454687633385779240 tw5731319296807777897 tw1886585955009671424 tw13803369789893634483 tw16924417029593599896 tw7190021348212486430 tw15841404296159102185 tw6215124268217372643 tw5945567920483614665 tw131644037547579495 tw12487234823356261936 tw5442348565903331120 tw4014125821861622853 tw2519194378038470976 tw17292683024776260740 tw12271210724271078781 tw17566954309780941698 tw113715134275066581 tw12422255726997071432 tw2463606741638687574 tw8572164394394602612 tw983479994959595271 tw15478152481906896233 tw6467467557335811641 tw17786302218250605021 tw17290075935266170450 tw13223777448790389731 tw10760033109997713495 tw333726893127445656 tw15673499289736032190 tw15354549250600903750 tw2600172339487932218 tw8550231059606499145 tw3772827208578412049 tw13077718295103430302 tw3988342440879206610 tw14617963910918832025 tw17071391290544222420 tw9843320250169437679 tw11251454738858447327 tw7057994494900425580 tw432207073928069642 tw6552221773229808478 tw10327390321662400249 tw5719425874302633480 tw15999993438056644364 tw11365156157017301928 tw14611621610692235155 tw5524005424508698268 tw5687657429019397620 tw18371877330242984493 tw17343776937817092756 tw13893247515212031661 tw10041231373499624162 tw8224672162216479678 tw10620967357513852416 tw4307782040037217570 tw13191695633693974925 tw15909453238430364214 tw8731416033104485080 tw3143372499473625454 tw2750879175275066159 tw17825853881131353688 tw16277697087594920992 tw16559566798812344769 tw8059427346551218209 tw6205034151669226720 tw1648661732554129051 tw8343492905394496643 tw5523965969916753767 tw1645746178929522627 tw14526895501498807810 tw9539089951430345755 tw11679812259656901153 tw17866225332775247685 tw17013914282973491519 tw9403626972195866720 tw7129488090737066103 tw5291193408920103519 tw4978744129423512388 tw14373300811137598864 tw13678827597674713563 tw12387866507130635069 tw12231843064153573965 tw11823314582247890594 tw1113747811548880100 tw1086589804435135849 tw10677268442369417746 tw14872582908466675629 tw10632571720647653179 tw15941402834422935718 tw14198090041917538370 tw10862509495125809221 tw13393514316061913545:True)
open PySem PySem.W PyProof.Rows
set_option maxRecDepth 100000 in
set_option maxHeartbeats 0 in
theorem PySem.Challenge.cw_sheetask_k11_whole_turned_to_an_end_holds : PySem.Challenge.rw_sheetask_k11_whole_turned_to_an_end.Holds := by
 w_on;o_law;k_head;(case hw=>w_witness2)
 k_fill
 refine Q12.walk (l:=PySem.Challenge.rw_sheetask_k11_whole_turned_to_an_end) rfl rfl (λw h Y=>⟨PySem.W.km_in_of Y,PySem.W.km_tabs_of Y⟩) (λw=>List.forall_mem_cons.mpr ⟨by kernel_rfl,λ_ h=>nomatch h⟩) (λw=>List.forall_mem_cons.mpr ⟨by kernel_rfl,λ_ h=>nomatch h⟩) ?F
 case F=>
  intro w mg fa h KX G hmg;refine' Q12.all_mk KX G hmg ?_ ?_ ?_ ?_ ?_ ?_ ?_ ?_ ?_ ?_ ?_ ?_ ?_ ?_ ?_ ?_ ?_ ?_ ?_ ?_ ?_ ?_ ?_ ?_ ?_ ?_ ?_ ?_ ?_ ?_ ?_ ?_ ?_ ?_ ?_ ?_ ?_ ?_ ?_ ?_ ?_ ?_ ?_ ?_ ?_ ?_ ?_ ?_ ?_ ?_ ?_ ?_ ?_ ?_ ?_ ?_ ?_ ?_ ?_ ?_ ?_ ?_ ?_ ?_ ?_ ?_ ?_ ?_ ?_ ?_ ?_ ?_ ?_ ?_ ?_ ?_ ?_ ?_ ?_
  all_goals first | (apply Q12.di;k_is;k_is;k_is;k_is) | (apply Q12.dl;k_is;k_is;k_is;k_is;kernel_rfl) | (apply Q12.dm;k_is;k_is;k_is;k_is;kernel_rfl) | (apply Q12.dn;k_is;k_is;k_is;k_is;kernel_rfl;kernel_rfl) | (apply Q12.dc;k_is;kernel_rfl;k_is) | (refine⟨⟨?_,?_,?_,?_⟩,?_,?_,?_,?_,?_⟩ <;> (try delta L2.NoAttr) <;> kernel_rfl) | (refine⟨⟨?_,?_,?_,?_⟩,?_,?_⟩ <;> (try delta L2.NoAttr) <;> kernel_rfl) | k_is | kernel_rfl | skip
#print axioms PySem.Challenge.cw_sheetask_k11_whole_turned_to_an_end_holds

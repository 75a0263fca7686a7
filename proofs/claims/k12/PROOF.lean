import PyProof.Rows.All
import Wide.All
import OpenK.AllK
import Wide.FinOn
import Lean
import PyProof.EqAt
import PyProof.EqKinds
import PyProof.TupleCall
import KE.KIsAll
import KE.KItem
import KE.KxBytes
import KE.KDictSum
import KE.KDictLaws
import KE.KSortAsk
import KE.KSortTup
import KE.KLam
import KE.KNestM
import KE.KRevIter
import KE.KDictList
import PyProof.ExcArgs
import PyProof.Rows.StrCase
import PyProof.Rows.SetFrom
import PyProof.SetRoads
import PyProof.AutoSeq1
import PyProof.EnumFor
import PyProof.EnumMake
import PyProof.EnumStmt
import PyProof.Rows.EnumRows
import PyProof.ConsumeWalk
import KE.KTryMore
import PyProof.ExcArgs
import PyProof.ZipIter
import PySem.Challenge.RW_sheetask_k12_whole_clever_is_plain
set_option Elab.async false
set_option linter.all false
set_option maxRecDepth 100000
section
open PySem PySem.Spec PyProof.Rows
theorem w9:type_of% @List.length_map:=@List.length_map
theorem wa:type_of% @List.getElem?_eq_getElem:=@List.getElem?_eq_getElem
theorem wb:type_of% @List.getD_eq_getElem?_getD:=@List.getD_eq_getElem?_getD
theorem we:type_of% @List.getElem?_eq_some_iff:=@List.getElem?_eq_some_iff
theorem wg:type_of% @List.length_append:=@List.length_append
def wo:type_of% @Heap.get?_push_of_some:=@Heap.get?_push_of_some
theorem wu:type_of% @List.getElem_mem:=@List.getElem_mem
theorem ww:type_of% @Nat.le_refl:=@Nat.le_refl
theorem wx:type_of% @List.mem_singleton:=@List.mem_singleton
def wy:type_of% @wpAny_bind:=@wpAny_bind
theorem wz:type_of% @List.size_toArray:=@List.size_toArray
theorem wA:type_of% @List.mem_append_right:=@List.mem_append_right
theorem wB:type_of% @List.mem_append:=@List.mem_append
theorem wD:type_of% @List.map_append:=@List.map_append
theorem wF:type_of% @List.getElem?_map:=@List.getElem?_map
theorem wG:type_of% @List.mem_cons:=@List.mem_cons
theorem wH:type_of% @decide_eq_false:=@decide_eq_false
theorem wI:type_of% @Heap.lt_size:=@Heap.lt_size
theorem wJ:type_of% @Nat.lt_of_lt_of_le:=@Nat.lt_of_lt_of_le
theorem wK:type_of% @List.length_take:=@List.length_take
theorem wL:type_of% @decide_eq_true:=@decide_eq_true
theorem wM:type_of% @if_neg:=@if_neg
theorem wN:type_of% @List.length_cons:=@List.length_cons
theorem wO:type_of% @Bool.false_ne_true:=@Bool.false_ne_true
def wP:type_of% @Nat.le_trans:=@Nat.le_trans
theorem wQ:type_of% @List.take_add_one:=@List.take_add_one
theorem wS:type_of% @List.length_singleton:=@List.length_singleton
def wU:type_of% @PySem.F.plainAttrs_list:=@PySem.F.plainAttrs_list
def wV:type_of% @wpAny_pure:=@wpAny_pure
theorem wW:type_of% @Nat.ne_of_lt:=@Nat.ne_of_lt
theorem wX:type_of% @List.mem_cons_of_mem:=@List.mem_cons_of_mem
theorem wY:type_of% @if_pos:=@if_pos
theorem wZ:type_of% @List.mem_append_left:=@List.mem_append_left
def q5:type_of% @Heap.get?_push_size:=@Heap.get?_push_size
def q9:type_of% @PyProof.Rows.boot_isinstance:=@PyProof.Rows.boot_isinstance
theorem qc:type_of% @List.take_length:=@List.take_length
theorem qe:type_of% @List.mem_map:=@List.mem_map
def qh:type_of% @List.length_filter_le:=@List.length_filter_le
theorem qi:type_of% @List.not_mem_nil:=@List.not_mem_nil
theorem qy:type_of% @List.mem_cons_self:=@List.mem_cons_self
def qz:type_of% @List.idxOf_lt_length_iff:=@List.idxOf_lt_length_iff
def qA:type_of% @of_decide_eq_true:=@of_decide_eq_true
def qB:type_of% @PySem.F.slot_list_index:=@PySem.F.slot_list_index
theorem qC:type_of% @List.map_cons:=@List.map_cons
def qE:type_of% @PySem.F.type_list_index:=@PySem.F.type_list_index
theorem qF:type_of% @List.lookup_cons:=@List.lookup_cons
def qI:type_of% @PySem.W.mg_none_of:=@PySem.W.mg_none_of
def qJ:type_of% @PyProof.Rows.boot_list:=@PyProof.Rows.boot_list
theorem qL:type_of% @List.mem_of_getElem?:=@List.mem_of_getElem?
theorem qN:type_of% @List.all_eq_true:=@List.all_eq_true
def qQ:type_of% @Nat.zero_le:=@Nat.zero_le
theorem qS:type_of% @List.take_of_length_le:=@List.take_of_length_le
def qT:type_of% @PySem.mem_of_lookup:=@PySem.mem_of_lookup
theorem qV:type_of% @List.filter_cons_of_pos:=@List.filter_cons_of_pos
def qY:type_of% @wpAny_mono:=@wpAny_mono
theorem qZ:type_of% @Bool.and_eq_true:=@Bool.and_eq_true
theorem Q0:type_of% @Nat.lt_succ_of_lt:=@Nat.lt_succ_of_lt
def Q2:type_of% @ne_of_beq_false:=@ne_of_beq_false
def Q5:type_of% @Heap.get?_update_other:=@Heap.get?_update_other
def Q6:type_of% @congrArg:=@congrArg
def Q9:type_of% @PyProof.Rows.callWith_type1:=@PyProof.Rows.callWith_type1
def Qa:type_of% @PyProof.Rows.slot_tuple_getitem:=@PyProof.Rows.slot_tuple_getitem
theorem Qb:type_of% @List.mem_range:=@List.mem_range
theorem Qc:type_of% @Heap.size_push:=@Heap.size_push
def Qd:type_of% @PyProof.Rows.boot_str:=@PyProof.Rows.boot_str
theorem Qe:type_of% @List.map_map:=@List.map_map
def Qf:type_of% @List.mem_filter:=@List.mem_filter
theorem Qh:type_of% @List.pairwise_iff_getElem:=@List.pairwise_iff_getElem
theorem Qi:type_of% @sizeLine_eq:=@sizeLine_eq
def Qj:type_of% @Calls.spliced_cons:=@Calls.spliced_cons
def Qk:type_of% @wpAny_Call_Name_kw:=@wpAny_Call_Name_kw
theorem Ql:type_of% @List.append_nil:=@List.append_nil
theorem Qo:type_of% @List.length_nil:=@List.length_nil
def Qq:type_of% @List.map_congr_left:=@List.map_congr_left
def Qr:type_of% @Nat.mul_le_mul_left:=@Nat.mul_le_mul_left
theorem Qt:type_of% @beq_iff_eq:=@beq_iff_eq
theorem Qu:type_of% @Bool.eq_false_iff:=@Bool.eq_false_iff
def Qv:type_of% @PyProof.Rows.boot_tuple:=@PyProof.Rows.boot_tuple
theorem Qw:type_of% @List.getElem?_append_right:=@List.getElem?_append_right
def Qy:type_of% @List.mem_of_mem_take:=@List.mem_of_mem_take
def Qz:type_of% @Nat.mul_le_mul_right:=@Nat.mul_le_mul_right
def QA:type_of% @List.forall_mem_cons:=@List.forall_mem_cons
theorem QC:type_of% @Nat.ne_of_gt:=@Nat.ne_of_gt
def QD:type_of% @PySem.W.kia_one:=@PySem.W.kia_one
def QE:type_of% @wpAny_holding:=@wpAny_holding
theorem QF:type_of% @List.any_eq_true:=@List.any_eq_true
theorem QG:type_of% @or_false:=@or_false
def QI:type_of% @Or.inr:=@Or.inr
theorem QJ:type_of% @List.map_take:=@List.map_take
theorem QK:type_of% @List.filter_map:=@List.filter_map
def QL:type_of% @List.length_eq_zero_iff:=@List.length_eq_zero_iff
theorem QP:type_of% @List.nodup_append:=@List.nodup_append
theorem QQ:type_of% @List.reverse_cons:=@List.reverse_cons
def QR:type_of% @List.length_pos_iff:=@List.length_pos_iff
theorem QS:type_of% @List.flatMap_cons:=@List.flatMap_cons
theorem QT:type_of% @Nat.mul_add:=@Nat.mul_add
theorem QU:type_of% @Nat.lt_irrefl:=@Nat.lt_irrefl
theorem QV:type_of% @List.getElem?_append_left:=@List.getElem?_append_left
theorem QY:type_of% @Bool.eq_iff_iff:=@Bool.eq_iff_iff
theorem w00:type_of% @List.nodup_cons:=@List.nodup_cons
def w02:type_of% @Or.inl:=@Or.inl
theorem w03:type_of% @Bool.false_eq_true:=@Bool.false_eq_true
def w04:type_of% @of_decide_eq_false:=@of_decide_eq_false
theorem w05:type_of% @beq_self_eq_true:=@beq_self_eq_true
theorem w06:type_of% @List.getElem_toArray:=@List.getElem_toArray
theorem w0b:type_of% @PyProof.Rows.F.plain_set_update_loop:=@PyProof.Rows.F.plain_set_update_loop
def w0c:type_of% @wpAny_truthy_bool:=@wpAny_truthy_bool
def w0e:type_of% @Calls.spliced_nil:=@Calls.spliced_nil
theorem w0f:type_of% @List.append_assoc:=@List.append_assoc
def w0g:type_of% @List.filter_congr:=@List.filter_congr
def w0h:type_of% @beq_eq_false_iff_ne:=@beq_eq_false_iff_ne
theorem w0k:type_of% @List.length_reverse:=@List.length_reverse
def w0m:type_of% @True.intro:=@True.intro
theorem w0n:type_of% @Nat.lt_succ_self:=@Nat.lt_succ_self
def w0r:type_of% @codeAny_mono:=@codeAny_mono
theorem w0s:type_of% @List.length_replicate:=@List.length_replicate
def w0t:type_of% @PyProof.Rows.boot_sum:=@PyProof.Rows.boot_sum
theorem w0u:type_of% @List.filter_append:=@List.filter_append
def w0v:type_of% @PySem.F.slot_list_pop:=@PySem.F.slot_list_pop
def w0w:type_of% @PySem.F.type_list_pop:=@PySem.F.type_list_pop
theorem w0A:type_of% @List.take_zero:=@List.take_zero
theorem w0B:type_of% @List.dropLast_concat:=@List.dropLast_concat
def w0F:type_of% @wpAny_passesOwn:=@wpAny_passesOwn
def w0H:type_of% @wpAny_newObj_type:=@wpAny_newObj_type
theorem w0I:type_of% @List.find?_cons:=@List.find?_cons
def w0J:type_of% @pushCells_keeps:=@pushCells_keeps
theorem w0K:type_of% @decide_eq_true_eq:=@decide_eq_true_eq
theorem w0L:type_of% @List.length_range:=@List.length_range
theorem w0M:type_of% @List.foldl_append:=@List.foldl_append
theorem w0N:type_of% @Int.zero_add:=@Int.zero_add
theorem w0O:type_of% @Array.length_toList:=@Array.length_toList
theorem w0P:type_of% @List.flatMap_append:=@List.flatMap_append
theorem w0Q:type_of% @List.filter_cons_of_neg:=@List.filter_cons_of_neg
theorem w0R:type_of% @List.length_drop:=@List.length_drop
theorem w0T:type_of% @List.getElem?_set_self:=@List.getElem?_set_self
def w0U:type_of% @Calls.callWith_builtin:=@Calls.callWith_builtin
theorem w0V:type_of% @List.filter_eq_nil_iff:=@List.filter_eq_nil_iff
def w0X:type_of% @PySem.W.callWith_K:=@PySem.W.callWith_K
theorem w0Y:type_of% @Nat.add_sub_cancel:=@Nat.add_sub_cancel
def w0Z:type_of% @Int.natCast_nonneg:=@Int.natCast_nonneg
theorem w10:type_of% @List.filter_filter:=@List.filter_filter
theorem w13:type_of% @Heap.get?_update_self:=@Heap.get?_update_self
theorem w14:type_of% @List.getElem?_eq_none:=@List.getElem?_eq_none
def w15:type_of% @F.called_set:=@F.called_set
def w16:type_of% @listUpdate_at:=@listUpdate_at
theorem w17:type_of% @Str.length_append:=@Str.length_append
theorem w19:type_of% @Bool.false_and:=@Bool.false_and
theorem w1b:type_of% @List.drop_zero:=@List.drop_zero
def w1c:type_of% @Nat.mul_le_mul:=@Nat.mul_le_mul
theorem w1d:type_of% @if_false:=@if_false
def w1e:type_of% @decide_eq_decide:=@decide_eq_decide
theorem w1g:type_of% @List.filter_cons:=@List.filter_cons
theorem w1j:type_of% @Heap.get?_update_ne:=@Heap.get?_update_ne
theorem w1l:type_of% @Nat.add_mul:=@Nat.add_mul
def w1o:type_of% @Nat.le_of_lt:=@Nat.le_of_lt
theorem w1q:type_of% @List.map_nil:=@List.map_nil
theorem w1r:type_of% @Ne.symm:=@Ne.symm
theorem w1t:type_of% @List.any_cons:=@List.any_cons
theorem w1u:type_of% @Bool.true_and:=@Bool.true_and
def w1w:type_of% @wpAny_ite_split:=@wpAny_ite_split
theorem w1C:type_of% @Nat.mul_one:=@Nat.mul_one
def w1G:type_of% @wpAny_call:=@wpAny_call
theorem w1K:type_of% @if_true:=@if_true
end
namespace L2
open PySem PySem.Spec PyProof.Rows
abbrev Key:=Sum Int Str
noncomputable def z3C:Key->Value->Bool
 | .inl k,v=>Value.isInt k v
 | .inr x,v=>Value.isStrOf x v
noncomputable def zfv(w:World):Key->Int
 | .inl k=>hashInt k
 | .inr x=>hashStr w x
theorem jx:∀{k:Key} {v:Value},z3C k v=true->(∃i t,k=Sum.inl i/\v=Value.int i t)\/(∃x t,k=Sum.inr x/\v=Value.str x t)
 | .inl i,v,h=>by
  obtain⟨t,e⟩:=Value.isInt_shape (k:=i) (v:=v) h;exact .inl ⟨i,t,rfl,e⟩
 | .inr x,v,h=>by
  obtain⟨t,e⟩:=Value.isStrOf_shape (x:=x) (v:=v) h;exact .inr ⟨x,t,rfl,e⟩
theorem zar(i:Int)(t:Tok):z3C (.inl i) (.int i t)=true:=by simp [z3C,Value.isInt]
theorem zan(x:Str)(t:Tok):z3C (.inr x) (.str x t)=true:=by simp [z3C,Value.isStrOf]
theorem ze6(a b:Int):decide ((Sum.inl a:Key)=Sum.inl b)=(a == b):=by
 by_cases e:a=b
 ·subst e;simp
 ·have h:¬(Sum.inl a:Key)=Sum.inl b:=λq=>e (Sum.inl.inj q)
  rw [wH h];exact(w0h.mpr e).symm
theorem zdP(a b:Str):decide ((Sum.inr a:Key)=Sum.inr b)=decide (a=b):=by
 by_cases e:a=b
 ·subst e;simp
 ·have h:¬(Sum.inr a:Key)=Sum.inr b:=λq=>e (Sum.inr.inj q)
  rw [wH h,wH e]
theorem zek(a:Int)(b:Str):decide ((Sum.inl a:Key)=Sum.inr b)=false:=wH (λq=>nomatch q)
theorem zeC(a:Str)(b:Int):decide ((Sum.inr a:Key)=Sum.inl b)=false:=wH (λq=>nomatch q)
noncomputable def jw(prog:Program)(w:World):PySem.KeyKind prog w Key where
 is:=z3C
 hash:=zfv w
 inj:=λv a b ha d=>by
  rcases jx ha with⟨i,t,rfl,rfl⟩ | ⟨x,t,rfl,rfl⟩
  ·rcases jx d with⟨j,u,rfl,e⟩ | ⟨y,u,rfl,e⟩
   ·injection e with e1 _;rw [e1]
   ·exact nomatch e
  ·rcases jx d with⟨j,u,rfl,e⟩ | ⟨y,u,rfl,e⟩
   ·exact nomatch e
   ·injection e with e1 _;rw [e1]
 byValue:=λk v h=>by
  rcases jx h with⟨i,t,rfl,rfl⟩ | ⟨x,t,rfl,rfl⟩ <;> rfl
 pyHash:=λc h=>by
  rcases jx c with⟨i,t,rfl,rfl⟩ | ⟨x,t,rfl,rfl⟩
  ·exact wpAny_pyHash_int h
  ·exact wpAny_pyHash_str h
 eqBool:=λf c h=>by
  rcases jx f with⟨i,t,rfl,rfl⟩ | ⟨x,t,rfl,rfl⟩
  ·rcases jx c with⟨j,u,rfl,rfl⟩ | ⟨y,u,rfl,rfl⟩
   ·rw [ze6]at h;exact wpAny_eqBool_int h
   ·rw [zek]at h;exact SeqAt.EqAt.int_str i t y u _ _ _ _ h
  ·rcases jx c with⟨j,u,rfl,rfl⟩ | ⟨y,u,rfl,rfl⟩
   ·rw [zeC]at h;exact SeqAt.EqAt.str_int x t j u _ _ _ _ h
   ·rw [zdP]at h;exact wpAny_eqBool_str h
 «strs»:=λk x t v h=>by
  rcases jx h with⟨i,u,rfl,e⟩ | ⟨y,u,rfl,e⟩
  ·exact nomatch e
  ·injection e with e1 _
   subst e1;cases v <;> rfl
def z7t(prog:Program)(w:World)(i:Int)(t:Tok):(jw prog w).is (.inl i) (.int i t)=true:=zar i t
def z7J(prog:Program)(w:World)(x:Str)(t:Tok):(jw prog w).is (.inr x) (.str x t)=true:=zan x t
inductive V where
 | non | bl (b:Bool) | int (i:Int) | str (x:Str) | byt (b:Array UInt8) | flt (b:UInt64) | ref (a:Addr) | ty (n:String)
 deriving DecidableEq
def RelV:V->Value->Prop
 | .non,u=>u=Value.none
 | .bl b,u=>u=Value.bool b
 | .int i,u=>∃t,u=Value.int i t
 | .str x,u=>∃t,u=Value.str x t
 | .byt b,u=>∃t,u=Value.bytes b t
 | .flt b,u=>∃t,u=Value.float b t
 | .ref a,u=>u=Value.ref a
 | .ty n,u=>u=Value.type n
abbrev zL:List V->List Value->Prop:=Paired RelV
variable{xs:List V}{us:List Value}
theorem zL.length(r:zL xs us):xs.length=us.length:=Paired.length r
theorem zL.get:∀{xs:List V} {us:List Value} {i:Nat} {x:V},zL xs us->xs[i]? =some x->∃u,us[i]? =some u/\RelV x u
 | _,_,_,_,.nil,e=>by simp at e
 | _,_,0,_,.cons r _,e=>by simp at e;subst e;exact⟨_,rfl,r⟩
 | _,_,i + 1,x,.cons _ t,e=>by
  obtain⟨u,h1,h2⟩:=zL.get (i:=i) (x:=x) t (by simpa using e);exact⟨u,by simpa using h1,h2⟩
variable{u:Value}{x:V}
theorem zL.set(r:RelV x u):∀{xs:List V} {us:List Value} (i:Nat),zL xs us->zL (xs.set i x) (us.set i u)
 | _,_,_,.nil=> .nil
 | _,_,0,.cons _ t=> .cons r t
 | _,_,i + 1,.cons q t=> .cons q (zL.set r i t)
def zL.append:∀{xs ys:List V} {us ws:List Value},zL xs us->zL ys ws->zL (xs ++ ys) (us ++ ws)
 | _,_,_,_,.nil,s=>s
 | _,_,_,_,.cons r t,s=> .cons r (zL.append t s)
theorem zL.take:∀{xs:List V} {us:List Value} (n:Nat),zL xs us->zL (xs.take n) (us.take n)
 | _,_,0,_=> .nil
 | _,_,_ + 1,.nil=> .nil
 | _,_,n + 1,.cons r t=> .cons r (zL.take n t)
theorem zL.drop:∀{xs:List V} {us:List Value} (n:Nat),zL xs us->zL (xs.drop n) (us.drop n)
 | _,_,0,r=>r
 | _,_,_ + 1,.nil=> .nil
 | _,_,n + 1,.cons _ t=>zL.drop n t
def z1z:Option V->Option Value->Prop
 | some v,some u=>RelV v u
 | none,none=>True
 | _,_=>False
variable{κ:Type}
def KV:List (κ×V)->List (κ×Value)->Prop:=Paired λ(p:κ×V) (q:κ×Value)=>p.1=q.1/\RelV p.2 q.2
noncomputable def kV:Key->V
 | .inl i=> .int i
 | .inr x=> .str x
inductive HO where
 | lst (xs:List V)
 | tup (xs:List V)
 | dK (kvs:List (Key×V)) | dT (kvs:List (List Key×V))
 | set (S:Int->Bool) (n:Nat)
 | ins (C dx:Addr) (fs:List (Str×V))
 | own (x:Addr)
 | xd (fs:List (Str×V))
 | met (f x:Addr)
 | rng (lo hi:Int)
 | frz (o:Obj) (u:HO)
 | tbl (ps:Array Value)
 | ext (φ:Heap->Prop)
abbrev Hp:=Addr->Option HO
noncomputable def upd(H:Hp)(a:Addr)(o:HO):Hp:=λb=>if b=a then some o else H b
variable{H:Hp}{a:Addr}{o:HO}
theorem zj:upd H a o a=some o:=by unfold upd;rw [wY rfl]
variable{b:Addr}
theorem zl(h:b≠a):upd H a o b=H b:=by unfold upd;rw [wM h]
theorem z1j{u:HO}:upd (upd H a o) a u=upd H a u:=by
 funext b;unfold upd;split <;> rfl
theorem z3E{u:HO}(h:H a=some o)(h':H b=some u)(d:o≠u):a≠b:=by
 intro e;subst e;rw [h]at h';exact d (Option.some.inj h')
theorem zq(h:H a=some o)(h':H b=none):a≠b:=by
 intro e;subst e;rw [h]at h';cases h'
section
variable(P:Program)(w:World)
def jt(H:Hp)(h:Heap)(a:Addr):HO->Prop
 | .lst xs=>xs.length<=sizeLine/\∃(a6:List Value) (n:Nat),zL xs a6/\h.get? a=some {cls:= .type "list",data:= .seq a6.toArray n}
 | .tup xs=>xs.length<=sizeLine/\∃a6:List Value,zL xs a6/\IsTup h a a6.toArray
 | .dK kvs=>kvs.length<=sizeLine/\(a == sysModules)=false/\∃vs,KV kvs vs/\h.DictOf (jw P w) a vs
 | .dT kvs=>kvs.length<=sizeLine/\(a == sysModules)=false/\∃xs:List (List Key×Addr×Value),
   Paired (λ(p:List Key×V) (q:List Key×Addr×Value)=>p.1=q.1/\H q.2.1=some (.tup (p.1.map kV))/\RelV p.2 q.2.2) kvs xs/\
   ∃o es ep,h.get? a=some o/\o.ExactDict/\o.data= .dict es ep/\es.toList=xs.map (entryOfKey (tupleKind (jw P w)))/\(xs.map (·.1)).Nodup
 | .set S n=>h.SetOf (intKind P w) a S n
 | .ins C dx fs=>H dx=some (.own a)/\fs.length<=1000/\dx≠a/\h.get? a=some (PySem.W.instObj C dx)/\
   ∃mA,h.Ns1 dx mA/\(∀f,z1z (fs.lookup f) (mA f))/\PySem.Within mA (fs.map (·.1))
 | .own _=>∃o,h.get? a=some o
 | .xd fs=>∃mA,h.Ns1 a mA/\∀f,z1z (fs.lookup f) (mA f)
 | .rng lo hi=>∃t u v,h.get? a=some {cls:= .type "range",data:= .fields #[.int lo t,.int hi u,.int 1 v]}
 | .frz o u=>h.get? a=some o/\jt H h a u
 | .tbl ps=>h.get? a=some {cls:= .none,data:= .fields ps}
 | .met f x=>h.get? a=some (PySem.W.methodObj (.ref f) (.ref x))
 | .ext φ=>φ h/\(∃o,h.get? a=some o)/\∀h1 h2:Heap,φ h1->(∀o,h1.get? a=some o->h2.get? a=some o)->φ h2
def HOk(H:Hp)(h:Heap):Prop:=∀a o,H a=some o->jt P w H h a o
end
variable{P:Program}{w:World}{H':Hp}{h h':Heap}
theorem jt.lt(x:jt P w H h a o):a < h.objs.size:=by
 cases o with
 | lst xs=>obtain⟨_,_,_,_,e⟩:=x;exact wI e
 | tup xs=>obtain⟨_,_,_,p⟩:=x;exact p.lt
 | dK kvs=>obtain⟨_,_,_,_,o,_,_,e,_⟩:=x;exact wI e
 | dT kvs=>obtain⟨_,_,_,_,o,_,_,e,_⟩:=x;exact wI e
 | set S n=>obtain⟨o,_,_,_,e,_⟩:=x;exact wI e
 | ins C dx fs=>obtain⟨_,_,_,e,_⟩:=x;exact wI e
 | own y=>obtain⟨_,e⟩:=x;exact wI e
 | xd fs=>obtain⟨_,⟨_,_,_,e,_⟩,_⟩:=x;exact wI e
 | rng lo hi=>obtain⟨_,_,_,e⟩:=x;exact wI e
 | frz b u=>obtain⟨e,_⟩:=x;exact wI e
 | tbl ps=>exact wI (show h.get? a=some _ from x)
 | met f y=>exact wI (show h.get? a=some _ from x)
 | ext φ=>obtain⟨_,⟨_,e⟩,_⟩:=x;exact wI e
def Paired.mapP{α β:Type}{F G:α->β->Prop}:∀{l₁:List α} {l₂:List β},Paired F l₁ l₂->(∀a b,F a b->G a b)->Paired G l₁ l₂
 | _,_,.nil,_=> .nil
 | _,_,.cons r t,f=> .cons (f _ _ r) (Paired.mapP t f)
theorem jt.stay(x:jt P w H h a o)(k:∀b u,(b=a\/H b=some (.own a))->h.get? b=some u->h'.get? b=some u)
  (l:∀b,H b=some (.own a)->H' b=some (.own a)) (ht:∀b xs,H b=some (.tup xs)->H' b=some (.tup xs)):jt P w H' h' a o:=by
 induction o with
 | lst xs=>obtain⟨z,a6,n,r,e⟩:=x;exact⟨z,a6,n,r,k _ _ (.inl rfl) e⟩
 | tup xs=>obtain⟨z,a6,r,i,e,c⟩:=x;exact⟨z,a6,r,i,k _ _ (.inl rfl) e,c⟩
 | dK kvs=>obtain⟨z,y,vs,r,i,es,ep,e,c⟩:=x;exact⟨z,y,vs,r,i,es,ep,k _ _ (.inl rfl) e,c⟩
 | dT kvs=>
  obtain⟨z,y,xs,r,i,es,ep,e,c⟩:=x;exact⟨z,y,xs,Paired.mapP r λp q z=>⟨z.1,ht _ _ z.2.1,z.2.2⟩,i,es,ep,k _ _ (.inl rfl) e,c⟩
 | set S n=>obtain⟨i,es,ep,t,e,c⟩:=x;exact⟨i,es,ep,t,k _ _ (.inl rfl) e,c⟩
 | ins C dx fs=>
  obtain⟨d,z,ne,e,mA,⟨od,es,ep,s,c⟩,r⟩:=x;exact⟨l _ d,z,ne,k _ _ (.inl rfl) e,mA,⟨od,es,ep,k _ _ (.inr d) s,c⟩,r⟩
 | own y=>obtain⟨i,e⟩:=x;exact⟨i,k _ _ (.inl rfl) e⟩
 | xd fs=>obtain⟨mA,⟨od,es,ep,e,c⟩,r⟩:=x;exact⟨mA,⟨od,es,ep,k _ _ (.inl rfl) e,c⟩,r⟩
 | rng lo hi=>obtain⟨t,u,v,e⟩:=x;exact⟨t,u,v,k _ _ (.inl rfl) e⟩
 | frz i u j=>obtain⟨e,q⟩:=x;exact⟨k _ _ (.inl rfl) e,j q⟩
 | tbl ps=>
  have e:h.get? a=some {cls:= .none,data:= .fields ps}:=x
  show h'.get? a=some {cls:= .none,data:= .fields ps}
  exact k a _ (.inl rfl) e
 | met f y=>
  have e:h.get? a=some (PySem.W.methodObj (.ref f) (.ref y)):=x
  show h'.get? a=some (PySem.W.methodObj (.ref f) (.ref y))
  exact k a _ (.inl rfl) e
 | ext φ=>obtain⟨p,⟨o,e⟩,st⟩:=x;exact⟨st _ _ p λo q=>k _ _ (.inl rfl) q,⟨o,k _ _ (.inl rfl) e⟩,st⟩
def HOk.lt(x:HOk P w H h)(e:H a=some o):a < h.objs.size:=(x a o e).lt
theorem HOk.fresh(x:HOk P w H h)(e:h.objs.size<=a):H a=none:=by
 cases q:H a with
 | none=>rfl
 | some u=>exact absurd (wJ (x.lt q) e) (QU _)
def HOk.kept(x:HOk P w H h)(k:∀b u,h.get? b=some u->h'.get? b=some u):HOk P w H h':=λa o e=>
 (x a o e).stay (λb u _ q=>k b u q) (λ_ q=>q) λ_ _ q=>q
theorem HOk.laid(x:HOk P w H h)(k:∀b u,h.get? b=some u->h'.get? b=some u)(hp:h.objs.size<=a)(new:jt P w (upd H a o) h' a o):HOk P w (upd H a o) h':=λb u e=>by
 have hn:=x.fresh hp;by_cases hb:b=a
 ·subst hb;rw [zj]at e;cases e;exact new
 ·rw [zl hb]at e;exact(x b u e).stay (λc v _ q=>k c v q) (λc q=>by rw [zl (zq q hn)];exact q) λc xs q=>by rw [zl (zq q hn)];exact q
def Rd(H:Hp)(a:Addr)(u:HO):Prop:=H a=some u\/∃o,H a=some (.frz o u)
theorem Rd.ok{u:HO}(r:Rd H a u)(x:HOk P w H h):jt P w H h a u:=by
 rcases r with r | ⟨o,r⟩
 ·exact x a u r
 ·obtain⟨_,q⟩:=x a _ r;exact q
def Mut:Option HO->Prop
 | some (.lst _)=>True
 | some (.dK _)=>True
 | some (.dT _)=>True
 | some (.set _ _)=>True
 | some (.ins _ _ _)=>True
 | some (.ext _)=>True
 | _=>False
section
variable{x e:Addr}{o':HO}
theorem HOk.write(ok:HOk P w H h)(mu:Mut (H x))(he:e=x\/H e=some (.own x))(k:∀b u,b≠e->h.get? b=some u->h'.get? b=some u)(d:∃u,h'.get? e=some u)
  (new:jt P w (upd H x o') h' x o'):HOk P w (upd H x o') h':=λb u q=>by
 have a:∀c y,H c=some (.own y)->c≠x:=λc y r z=>by subst z;rw [r]at mu;exact mu
 have f:∀c xs,H c=some (.tup xs)->c≠x:=λc xs r z=>by subst z;rw [r]at mu;exact mu
 by_cases hb:b=x
 ·subst hb;rw [zj]at q;cases q;exact new
 ·rw [zl hb]at q;by_cases hbe:b=e
  ·have q':H b=some (.own x):=by
    rcases he with z | z
    ·exact absurd (hbe.trans z) hb
    ·rw [hbe];exact z
   rw [q]at q';cases q';obtain⟨v,i⟩:=d;exact⟨v,by rw [hbe];exact i⟩
  ·refine(ok b u q).stay (λc v hc r=>k c v ?_ r) (λc r=>by rw [zl (a c b r)];exact r) λc xs r=>by rw [zl (f c xs r)];exact r
   rcases hc with rfl | hc
   ·exact hbe
   ·rintro rfl;rcases he with z | z
    ·exact a c b hc z
    ·rw [hc]at z;cases z;exact hb rfl
end
structure Un(fs ex:List Addr)(H H':Hp)(h h':Heap):Prop where
 keep:∀b o,h.get? b=some o->H b=none->b∉fs->b∉ex->h'.get? b=some o
 slot:∀b o,h.get? b=some o->H b=none->b∈fs->b∉ex->∃sl,h'.get? b=some {o with slots:=sl}
 free:∀b o,h.get? b=some o->H b=none->b∉ex->H' b=none
 there:∀b o,h.get? b=some o->b∉ex->∃o',h'.get? b=some o'
 tups:∀b xs,H b=some (.tup xs)->H' b=some (.tup xs)
 frzs:∀b o u,H b=some (.frz o u)->H' b=some (.frz o u)
 tbls:∀b ps,H b=some (.tbl ps)->∃more,H' b=some (.tbl (ps ++ more))
section
variable{fs i6 ex Dx:List Addr}{H1 H2:Hp}{h1 h2:Heap}{x e:Addr}
theorem Un.any(u:Un fs ex H H1 h h1){a:Obj}(q:h.get? b=some a)(n:H b=none)(c:b∉ex):∃sl,h1.get? b=some {a with slots:=sl}:=by
 by_cases hb:b∈fs
 ·exact u.slot b a q n hb c
 ·exact⟨a.slots,u.keep b a q n hb c⟩
theorem Un.kept(k:∀b u,h.get? b=some u->h'.get? b=some u):Un fs ex H H h h':=
 ⟨λb a q _ _ _=>k b a q,λb a q _ _ _=>⟨a.slots,k b a q⟩,λ_ _ _ n _=>n,λb a q _=>⟨a,k b a q⟩,λ_ _ q=>q,λ_ _ _ q=>q,λ_ ps q=>⟨#[],by rw [q];simp⟩⟩
def Un.refl:Un fs ex H H h h:=Un.kept λ_ _ q=>q
theorem Un.laid(k:∀b u,h.get? b=some u->h'.get? b=some u)(hp:h.objs.size<=a)(hn:H a=none):Un fs ex H (upd H a o) h h' where
 keep:=λb u q _ _ _=>k b u q
 slot:=λb u q _ _ _=>⟨u.slots,k b u q⟩
 free:=λb u q n _=>by rw [zl (wW (wJ (wI q) hp))];exact n
 there:=λb u q _=>⟨u,k b u q⟩
 tups:=λb xs q=>by rw [zl (zq q hn)];exact q
 frzs:=λb u xs q=>by rw [zl (zq q hn)];exact q
 tbls:=λb ps q=>⟨#[],by rw [zl (zq q hn),q];simp⟩
theorem Un.write(mu:Mut (H x))(he:e=x\/H e=some (.own x))(k:∀b u,b≠e->h.get? b=some u->h'.get? b=some u)(d:∃u,h'.get? e=some u):Un fs ex H (upd H x o) h h':=by
 have c:∀b,H b=none->b≠x:=λb n z=>by subst z;rw [n]at mu;exact mu
 have a:∀b,H b=none->b≠e:=λb n z=>by
  subst z;rcases he with r | r
  ·exact c b n r
  ·rw [n]at r;cases r
 have hm:∀b u,H b=some u->¬Mut (some u)->b≠x:=λb u q nm z=>by subst z;rw [q]at mu;exact nm mu
 refine⟨λb u q n _ _=>k b u (a b n) q,λb u q n _ _=>⟨u.slots,k b u (a b n) q⟩,λb u q n _=>by rw [zl (c b n)];exact n,λb u q _=> ?_,
  λb xs q=>by rw [zl (hm b _ q λz=>z)];exact q,λb u xs q=>by rw [zl (hm b _ q λz=>z)];exact q,λb ps q=>⟨#[],by rw [zl (hm b _ q λz=>z),q];simp⟩⟩
 by_cases hbe:b=e
 ·subst hbe;exact d
 ·exact⟨u,k b u hbe q⟩
end
noncomputable def trk(h:Heap)(H:Hp):List Addr:=(List.range h.objs.size).filter λa=>(H a).isSome
noncomputable def z54(h:Heap)(H:Hp):Heap:=PySem.W.hideAll h (trk h H)
def zay(h:Heap)(H:Hp):(z54 h H).objs.size=h.objs.size:=PySem.W.hideAll_size _ _
theorem zbM{o:Obj}(e:h.get? b=some o)(n:H b=none):(z54 h H).get? b=some o:=
 PySem.W.hideAll_get _ e λhm=>by
  have q:(H b).isSome=true:=(Qf.mp hm).2;rw [n]at q;simp at q
theorem zdl{o:Obj}(e:(z54 h H).get? b=some o):h.get? b=some o/\H b=none:=by
 have a:h.get? b=some o:=PySem.W.of_hideAll (trk h H) e;refine⟨a,?_⟩;cases q:H b with
 | none=>rfl
 | some x=>
  have hm:b∈trk h H:=Qf.mpr ⟨Qb.mpr (wI a),by simp [q]⟩;have z:(z54 h H).get? b=none:=PySem.W.hideAll_none (trk h H) hm;rw [z]at e;cases e
structure Mod(K:W.Frag)(mg:Str->Option Value)(base:Heap):Prop where
 kin:K.In base
 glob:base.Ns mainGlobals mg
 blt:∃mb,base.Ns builtinsNs mb/\∀x:Str,x≠"__name__"->mb x=bootBuiltins x
 nolimit:base.NoLimit
structure Cx where
 prog:Program
 w:World
 K:W.Frag
 mg:Str->Option Value
 base:Heap
 A:Around
 N:List Str
 s₀:Shared
 H₀:Hp
 env:Env
 outer:List Env
 stack:List Env
 ex:List Addr
 fn:Str->Bool
 calm:Bool
 pn:List (Addr×Obj)
 xe:Value->Shared->Prop
noncomputable def frs(l:List Env):List Addr:=l.filterMap (·.frame)
noncomputable abbrev Cx.fs(X:Cx):List Addr:=frs X.outer
def Vis(sc:Scope)(x:Str):Prop:=sc.names.lookup x=some .local\/sc.names.lookup x=some .cell\/sc.names.lookup x=some .free
def Loc(sc:Scope)(x:Str):Prop:=sc.names.lookup x=some .local\/sc.names.lookup x=some .cell
def Look(env:Env)(h:Heap)(m:Str->Option Value)(x:Str)(u:Value):Prop:=
 (env.kindOf x=some .local/\m x=some u)\/((env.kindOf x=some .cell\/env.kindOf x=some .free)/\∃c,env.cells.lookup x=some c/\h.IsCell c (some u))
structure Cx.Ok(X:Cx):Prop where
 mod:Mod X.K X.mg X.base
 kind:X.env.scope.kind= .function
 glob:X.env.globals=mainGlobals
 blt:X.env.builtins=builtinsNs
 above:X.s₀.heap.objs.size<=X.env.locals
 inj:∀x y c,X.env.cells.lookup x=some c->X.env.cells.lookup y=some c->x=y
 has:∀x,(X.env.kindOf x=some .cell\/X.env.kindOf x=some .free)->∃c,X.env.cells.lookup x=some c
 cab:∀x c,X.fn x=true->X.env.cells.lookup x=some c->X.s₀.heap.objs.size<=c
 hd:X.calm=true->X.A.handled=none
 frames:X.A.frames=some X.stack
 stk:X.stack=X.outer\/(X.stack=X.env :: X.outer/\X.env.frame=some X.env.locals)
 exf:∀b∈X.ex,b≠X.env.locals/\∀x c,X.env.cells.lookup x=some c->c≠b
 bs:∀b o,X.base.get? b=some o->X.s₀.heap.get? b=some o/\X.H₀ b=none
 bsz:X.base.objs.size<=X.s₀.heap.objs.size
 noex:∀b o,X.base.get? b=some o->b∉X.ex
 exfs:∀b∈X.ex,b∉X.fs
 funs:X.s₀.heap.FunFrames X.base X.outer
 frf:∀b∈X.fs,X.H₀ b=none
structure Inv(X:Cx)(pins:List (Addr×Obj))(σ:List (Option V))(H:Hp)(s:Shared):Prop where
 ok:X.Ok
 os:s.os=X.s₀.os
 bare:AllBare s.gens
 base:Un X.fs X.ex X.H₀ H X.s₀.heap s.heap
 loc:∃m,s.heap.Ns X.env.locals m/\∀(i:Nat) (x:Str) (v:V),X.N[i]? =some x->σ[i]? =some (some v)->Vis X.env.scope x->∃u,RelV v u/\Look X.env s.heap m x u
 cell:∀x c,X.env.cells.lookup x=some c->∃v,s.heap.IsCell c v
 free:H X.env.locals=none
 freeC:∀x c,X.env.cells.lookup x=some c->H c=none
 pin:∀p∈X.pn ++ pins,s.heap.get? p.1=some p.2/\H p.1=none/\p.1≠X.env.locals/\p.1∉X.fs/\∀v,p.2.data≠ .cell v
 hok:HOk X.prog X.w H s.heap
 len:σ.length=X.N.length
variable{x:Str}{X:Cx}{pins:List (Addr×Obj)}{s s':Shared}{g':Array GenState}{t' i:Nat}{d':Drawn}{ch:List Addr}{it:Addr}{N:List Str}{M:Model}{A:Around}{E:Value->Shared->Prop}
section
variable{σ:List (Option V)}
theorem Cx.Ok.nofr(ok:X.Ok){o:Obj}(e:X.base.get? b=some o):b∉X.fs:=λa=>by
 have:=(ok.funs.mem a).1;rw [e]at this;cases this
def Inv.bs(I:Inv X pins σ H s):∀b o,X.base.get? b=some o->s.heap.get? b=some o/\H b=none:=λb o e=>
 ⟨I.base.keep b o (I.ok.bs b o e).1 (I.ok.bs b o e).2 (I.ok.nofr e) (I.ok.noex b o e),I.base.free b o (I.ok.bs b o e).1 (I.ok.bs b o e).2 (I.ok.noex b o e)⟩
def Inv.bk(I:Inv X pins σ H s):∀b o,X.base.get? b=some o->s.heap.get? b=some o:=λb o e=>(I.bs b o e).1
def Inv.mod(I:Inv X pins σ H s):Mod X.K X.mg X.base:=I.ok.mod
def Inv.kIn(I:Inv X pins σ H s):X.K.In s.heap:=I.ok.mod.kin.keeps I.bk
def Inv.nolimit(I:Inv X pins σ H s):s.heap.NoLimit:=I.ok.mod.nolimit.keeps I.bk
def Inv.lt(I:Inv X pins σ H s):X.env.locals < s.heap.objs.size:=let ⟨_,hn,_⟩:=I.loc;hn.lt
theorem Inv.sz(I:Inv X pins σ H s):X.s₀.heap.objs.size<=s.heap.objs.size:=wP I.ok.above (w1o I.lt)
theorem Inv.nofs(I:Inv X pins σ H s)(h:s.heap.objs.size<=a):a∉X.fs:=λc=>by
 obtain⟨_,o,b,_⟩:=I.ok.funs.mem c;exact absurd (wJ (wI b) (wP I.sz h)) (QU _)
theorem Inv.cne(I:Inv X pins σ H s):∀x c,X.env.cells.lookup x=some c->c≠X.env.locals:=λx c e z=>by
 obtain⟨v,o,a,hd⟩:=I.cell x c e;obtain⟨m,⟨o',es,ep,b,d,_⟩,_⟩:=I.loc;rw [z,b]at a;cases a;rw [d]at hd;cases hd
theorem Inv.funs(I:Inv X pins σ H s):s.heap.FunFrames X.base X.outer:=by
 have all:∀(l:List Env),(∀b∈frs l,b∈X.fs)->X.s₀.heap.FunFrames X.base l->s.heap.FunFrames X.base l:=by
  intro l
  induction l with
  | nil=>intro _ _;trivial
  | cons env r f=>
   intro hs hl;obtain⟨i,⟨L,o,c,hn,h,hd⟩,hr⟩:=hl;have a:L∈X.fs:=hs L (by unfold frs;rw [List.filterMap_cons,c];exact qy);obtain⟨sl,e⟩:=I.base.slot L o h (I.ok.frf L a) a λz=>I.ok.exfs L z a
   exact⟨i,⟨L,_,c,hn,e,hd⟩,f (λb d=>hs b (by unfold frs;rw [List.filterMap_cons,c];exact wX _ d)) hr⟩
 exact all X.outer (λ_ d=>d) I.ok.funs
theorem Inv.stack(I:Inv X pins σ H s):s.heap.FunFrames X.base X.stack:=by
 rcases I.ok.stk with e | ⟨e,a⟩
 ·rw [e];exact I.funs
 ·rw [e];obtain⟨m,hn,_⟩:=I.loc;refine .cons (by rw [I.ok.kind];decide) a hn ?_ I.funs;exact Heap.get?_none_of_le (wP I.ok.bsz I.ok.above)
theorem Inv.stkSub(I:Inv X pins σ H s):∀b∈frs X.stack,b∈X.env.locals :: X.fs:=λb a=>by
 rcases I.ok.stk with e | ⟨e,c⟩
 ·rw [e]at a;exact wX _ a
 ·rw [e]at a;unfold frs at a;rw [List.filterMap_cons,c]at a;exact a
theorem Inv.stkFree(I:Inv X pins σ H s):∀b∈frs X.stack,H b=none:=λb hb=>by
 rcases wG.mp (I.stkSub b hb)with e | hb
 ·rw [e];exact I.free
 ·obtain⟨_,o,a,_⟩:=I.ok.funs.mem hb;exact I.base.free b o a (I.ok.frf b hb) λz=>I.ok.exfs b z hb
theorem Inv.step(I:Inv X pins σ H s)
  (y:∀b∈ch,(b∈X.ex\/X.s₀.heap.objs.size<=b)/\b≠X.env.locals/\(∀x c,X.env.cells.lookup x=some c->c≠b)/\∀p∈X.pn ++ pins,p.1≠b)
  (keep:∀b o,b≠X.env.locals->b∉X.fs->b∉ch->s.heap.get? b=some o->H b=none->h'.get? b=some o)
  (slot:∀b o,b≠X.env.locals->b∈X.fs->b∉ch->s.heap.get? b=some o->H b=none->∃sl,h'.get? b=some {o with slots:=sl}) (free:∀b o,b∉ch->s.heap.get? b=some o->H b=none->H' b=none)
  (there:∀b o,b∉ch->s.heap.get? b=some o->∃o',h'.get? b=some o')
  (tups:∀b xs,H b=some (.tup xs)->H' b=some (.tup xs)) (frzs:∀b o u,H b=some (.frz o u)->H' b=some (.frz o u)) (tbls:∀b ps,H b=some (.tbl ps)->∃more,H' b=some (.tbl (ps ++ more)))
  (ns:∀m,s.heap.Ns X.env.locals m->h'.Ns X.env.locals m) (hok:HOk X.prog X.w H' h') (E:AllBare g'):
  Inv X pins σ H' {s with heap:=h',gens:=g',drawn:=d',toks:=t'}:=by
 have neL:∀b o,X.s₀.heap.get? b=some o->b≠X.env.locals:=λb o e=>wW (wJ (wI e) I.ok.above)
 have B:∀b o,X.s₀.heap.get? b=some o->b∉X.ex->b∉ch:=λb o e a h=>by
  rcases(y b h).1 with z | z
  ·exact a z
  ·exact absurd (wJ (wI e) z) (QU _)
 have cellK:∀x c,X.env.cells.lookup x=some c->∀v,s.heap.IsCell c v->h'.IsCell c v:=λx c e v ⟨o,j,hd⟩=>by
  have t:c∉ch:=λz=>(y c z).2.2.1 x c e rfl
  by_cases hc:c∈X.fs
  ·obtain⟨sl,q⟩:=slot c o (I.cne x c e) hc t j (I.freeC x c e);exact⟨_,q,hd⟩
  ·exact⟨o,keep c o (I.cne x c e) hc t j (I.freeC x c e),hd⟩
 refine⟨I.ok,I.os,E,⟨λb o e n h a=> ?_,λb o e n h a=> ?_,λb o e n a=> ?_,λb o e a=> ?_,λb xs e=>tups b xs (I.base.tups b xs e),λb o xs e=>frzs b o xs (I.base.frzs b o xs e),λb ps e=> ?_⟩,?_,λx c e=> ?_,?_,λx c e=> ?_,λp hp=> ?_,hok,I.len⟩
 ·exact keep b o (neL b o e) h (B b o e a) (I.base.keep b o e n h a) (I.base.free b o e n a)
 ·obtain⟨sl,f⟩:=I.base.slot b o e n h a;obtain⟨D,A⟩:=slot b _ (neL b o e) h (B b o e a) f (I.base.free b o e n a);exact⟨D,A⟩
 ·obtain⟨o',f⟩:=I.base.there b o e a;exact free b o' (B b o e a) f (I.base.free b o e n a)
 ·obtain⟨o',f⟩:=I.base.there b o e a;exact there b o' (B b o e a) f
 ·obtain⟨G,f⟩:=I.base.tbls b ps e;obtain⟨C,A⟩:=tbls b _ f;exact⟨G ++ C,by rw [A,Array.append_assoc]⟩
 ·obtain⟨m,hn,hl⟩:=I.loc;refine⟨m,ns m hn,λi x v f A F=> ?_⟩;obtain⟨u,r,l⟩:=hl i x v f A F;refine⟨u,r,?_⟩;rcases l with l | ⟨k,c,e,z⟩
  ·exact .inl l
  ·exact .inr ⟨k,c,e,cellK x c e _ z⟩
 ·obtain⟨v,z⟩:=I.cell x c e;exact⟨v,cellK x c e v z⟩
 ·obtain⟨m,⟨o,_,_,j,_⟩,_⟩:=I.loc;exact free _ o (λz=>(y _ z).2.1 rfl) j I.free
 ·obtain⟨v,o,j,hd⟩:=I.cell x c e;exact free c o (λz=>(y c z).2.2.1 x c e rfl) j (I.freeC x c e)
 ·obtain⟨e,n,ne,nf,d⟩:=I.pin p hp;have t:p.1∉ch:=λz=>(y p.1 z).2.2.2 p hp rfl
  exact⟨keep p.1 p.2 ne nf t e n,free p.1 p.2 t e n,ne,nf,d⟩
theorem Inv.un(I:Inv X pins σ H s)(u:Un X.fs [] H H' s.heap h')(hok:HOk X.prog X.w H' h'):Inv X pins σ H' {s with heap:=h',toks:=t'}:=by
 obtain⟨m,⟨o,es,ep,c,r⟩,_⟩:=id I.loc;obtain⟨sl,h⟩:=u.any c I.free (by simp);exact I.step (g':=s.gens) (d':=s.drawn) (ch:= []) (λ_ z=>nomatch z) (λb o _ a _ e n=>u.keep b o e n a (by simp)) (λb o _ a _ e n=>u.slot b o e n a (by simp)) (λb o _ e n=>u.free b o e n (by simp)) (λb o _ e=>u.there b o e (by simp)) u.tups u.frzs u.tbls (λj hm=>by
  obtain⟨o',f,i,d,r'⟩:=hm;rw [c]at d;cases d;exact⟨_,f,i,h,r'⟩) hok I.bare
theorem Inv.call(I:Inv X pins σ H s)(u:Un (frs X.stack) ch H H' s.heap h')(hok:HOk X.prog X.w H' h')(l:AllBare g')
  (h:∀b∈ch,(b∈X.ex\/X.s₀.heap.objs.size<=b)/\b≠X.env.locals/\(∀x c,X.env.cells.lookup x=some c->c≠b)/\∀p∈X.pn ++ pins,p.1≠b):
  Inv X pins σ H' {s with heap:=h',gens:=g',drawn:=d',toks:=t'}:=by
 obtain⟨m,⟨o,es,ep,d,r⟩,_⟩:=id I.loc;obtain⟨sl,a⟩:=u.any d I.free λz=>(h _ z).2.1 rfl
 exact I.step (ch:=ch) h (λb o a j hc e n=>u.keep b o e n (λz=>(wG.mp (I.stkSub b z)).elim a j) hc) (λb o _ _ hc e n=>u.any e n hc) (λb o hc e n=>u.free b o e n hc) (λb o hc e=>u.there b o e hc) u.tups u.frzs u.tbls (λt hm=>by
  obtain⟨o',i,q,f,r'⟩:=hm;rw [d]at f;cases f;exact⟨_,i,q,a,r'⟩) hok l
theorem Inv.turned(I:Inv X pins σ H s)(k:∀b o,b≠it->s.heap.get? b=some o->h'.get? b=some o)(hn:H it=none)(a:it≠X.env.locals)
  (h1:it∈X.ex\/X.s₀.heap.objs.size<=it) (h2:∀x c,X.env.cells.lookup x=some c->c≠it) (h:∀p∈X.pn ++ pins,p.1≠it):Inv X pins σ H {s with heap:=h',toks:=t'}:=by
 have d:∀b u,H b=some u->b≠it:=λb u e z=>by rw [z,hn]at e;cases e
 refine I.step (g':=s.gens) (d':=s.drawn) (ch:= [it]) (λb i=> ?_) (λb o _ _ hc e _=>k b o (λz=>hc (by simp [z])) e) (λb o _ _ hc e _=>⟨o.slots,k b o (λz=>hc (by simp [z])) e⟩) (λ_ _ _ _ n=>n)
  (λb o hc e=>⟨o,k b o (λz=>hc (by simp [z])) e⟩) (λ_ _ e=>e) (λ_ _ _ e=>e) (λb ps e=>⟨#[],by rw [e];simp⟩) (λm hm=> ?_) (λb u e=> ?_) I.bare
 ·have e:b=it:=by simpa using i
  subst e;exact⟨h1,a,h2,h⟩
 ·obtain⟨o,es,ep,f,r⟩:=hm;exact⟨o,es,ep,k _ o (w1r a) f,r⟩
 ·refine(I.hok b u e).stay (λc v hc q=>k c v ?_ q) (λ_ q=>q) λ_ _ q=>q
  rcases hc with z | z
  ·rw [z];exact d b u e
  ·exact d c _ z
def Inv.tok(I:Inv X pins σ H s)(t:Nat):Inv X pins σ H {s with toks:=t}:=I.un (h':=s.heap) (t':=t) Un.refl I.hok
def Inv.kept(I:Inv X pins σ H s)(k:∀b u,s.heap.get? b=some u->h'.get? b=some u):Inv X pins σ H {s with heap:=h',toks:=t'}:=I.un (Un.kept k) (I.hok.kept k)
def Inv.laid(I:Inv X pins σ H s)(k:∀b u,s.heap.get? b=some u->h'.get? b=some u)(hp:s.heap.objs.size<=a)(new:jt X.prog X.w (upd H a o) h' a o):
  Inv X pins σ (upd H a o) {s with heap:=h',toks:=t'}:=I.un (Un.laid k hp (I.hok.fresh hp)) (I.hok.laid k hp new)
def Inv.write{x e:Addr}(I:Inv X pins σ H s)(mu:Mut (H x))(he:e=x\/H e=some (.own x))(k:∀b u,b≠e->s.heap.get? b=some u->h'.get? b=some u)(a:∃u,h'.get? e=some u)
  (new:jt X.prog X.w (upd H x o) h' x o):Inv X pins σ (upd H x o) {s with heap:=h',toks:=t'}:=I.un (Un.write mu he k a) (I.hok.write mu he k a new)
def Inv.pins_of{a:List (Addr×Obj)}(I:Inv X pins σ H s)(h:∀p∈a,s.heap.get? p.1=some p.2/\H p.1=none/\p.1≠X.env.locals/\p.1∉X.fs/\∀v,p.2.data≠ .cell v):Inv X a σ H s:=
 ⟨I.ok,I.os,I.bare,I.base,I.loc,I.cell,I.free,I.freeC,λp hp=>(wB.mp hp).elim (λz=>I.pin p (wZ _ z)) (h p),I.hok,I.len⟩
theorem z7u(c:N.Nodup){j:Nat}(a:N[i]? =some x)(b:N[j]? =some x):i=j:=by
 obtain⟨h1,e⟩:=we.mp a;obtain⟨h2,d⟩:=we.mp b;exact(List.getElem_inj c).mp (e.trans d.symm)
variable{Q:Unit->Shared->Prop}
theorem z5E{v:V}(I:Inv X pins σ H s)(K:X.N.Nodup)(hi:X.N[i]? =some x)(l:Loc X.env.scope x)(r:RelV v u)
  (h:∀s',Inv X pins (σ.set i (some v)) H s'->(∃a,Heap.SameBut a s.heap s'.heap/\(a=X.env.locals\/X.env.cells.lookup x=some a))->Q () s') (T:X.fn x=true\/X.env.scope.names.lookup x=some .local:=by first | exact .inl rfl | exact .inr rfl | assumption):wpAny M A (storeName X.env x u) Q E s:=by
 obtain⟨m,hn,hl⟩:=id I.loc;have P:(X.env.scope.kind == .class || (X.env.scope.kind == .module && X.env.locals != X.env.globals))=false:=by rw [I.ok.kind];rfl
 have hiσ:i < σ.length:=by rw [I.len];exact(we.mp hi).1
 have cne:=I.cne;have tracked:∀{a:Addr} {h':Heap},(∃o,s.heap.get? a=some o/\H a=none)->Heap.SameBut a s.heap h'->HOk X.prog X.w H h':=λ{a h'} ha hs b ob e=>by
  obtain⟨_,_,L⟩:=ha;refine(I.hok b ob e).stay (λc C hc q=>(hs.2 c ?_).trans q) (λ_ q=>q) λ_ _ q=>q
  rintro rfl;rcases hc with rfl | hc
  ·rw [L]at e;cases e
  ·rw [L]at hc;cases hc
 rcases l with hk | hk
 ·refine wpAny_storeName_local hk hn (λh' Y hs=> ?_) P;obtain⟨U,_,_,S,_⟩:=id hn;refine h _ ⟨I.ok,I.os,I.bare,⟨λb o e n B l=> ?_,λb o e n B l=> ?_,I.base.free,λb o e l=> ?_,I.base.tups,I.base.frzs,I.base.tbls⟩,⟨_,Y,λj y v' f t F=> ?_⟩,λy c e=> ?_,I.free,I.freeC,λp hp=> ?_,tracked ⟨U,S,I.free⟩ hs,by simpa using I.len⟩ ⟨_,hs,.inl rfl⟩
  ·exact(hs.2 b (wW (wJ (wI e) I.ok.above))).trans (I.base.keep b o e n B l)
  ·obtain⟨sl,f⟩:=I.base.slot b o e n B l;exact⟨sl,(hs.2 b (wW (wJ (wI e) I.ok.above))).trans f⟩
  ·obtain⟨o',f⟩:=I.base.there b o e l;exact⟨o',(hs.2 b (wW (wJ (wI e) I.ok.above))).trans f⟩
  ·by_cases hj:j=i
   ·subst hj;rw [hi]at f;cases f;rw [w0T hiσ]at t;cases t;exact⟨u,r,.inl ⟨hk,by simp⟩⟩
   ·rw [List.getElem?_set_ne (w1r hj)]at t;obtain⟨G,r',q⟩:=hl j y v' f t F;refine⟨G,r',?_⟩;rcases q with⟨k,e⟩ | ⟨k,c,e,z⟩
    ·refine .inl ⟨k,?_⟩;have:y≠x:=λe=>hj (z7u K f (e ▸ hi))
     simp [this,e]
    ·exact .inr ⟨k,c,e,z.sameBut hs (cne y c e)⟩
  ·obtain⟨C,z⟩:=I.cell y c e;exact⟨C,z.sameBut hs (cne y c e)⟩
  ·obtain⟨e,n,ne,nf,d⟩:=I.pin p hp;exact⟨(hs.2 p.1 ne).trans e,n,ne,nf,d⟩
 ·have D:X.fn x=true:=by
   rcases T with z | z
   ·exact z
   ·rw [z]at hk;cases hk
  obtain⟨c,hc⟩:=I.ok.has x (.inl hk);obtain⟨C,z⟩:=I.cell x c hc;refine wpAny_storeName_cell I.ok.kind hk hc z (λh' J hs=> ?_);obtain⟨oc,O,Z⟩:=id z;refine h {s with heap:=h'} ⟨I.ok,I.os,I.bare,⟨λb o e n B l=> ?_,λb o e n B l=> ?_,I.base.free,λb o e l=> ?_,I.base.tups,I.base.frzs,I.base.tbls⟩,⟨m,hn.sameBut hs (w1r (cne x c hc)),λj y v' f t F=> ?_⟩,λy c' e=> ?_,I.free,I.freeC,λp hp=> ?_,tracked ⟨oc,O,I.freeC x c hc⟩ hs,by simpa using I.len⟩ ⟨c,hs,.inr hc⟩
  ·exact(hs.2 b (wW (wJ (wI e) (I.ok.cab x c D hc)))).trans (I.base.keep b o e n B l)
  ·obtain⟨sl,f⟩:=I.base.slot b o e n B l;exact⟨sl,(hs.2 b (wW (wJ (wI e) (I.ok.cab x c D hc)))).trans f⟩
  ·obtain⟨o',f⟩:=I.base.there b o e l;exact⟨o',(hs.2 b (wW (wJ (wI e) (I.ok.cab x c D hc)))).trans f⟩
  ·by_cases hj:j=i
   ·subst hj;rw [hi]at f;cases f;rw [w0T hiσ]at t;cases t;exact⟨u,r,.inr ⟨.inl hk,c,hc,J⟩⟩
   ·rw [List.getElem?_set_ne (w1r hj)]at t;obtain⟨G,r',q⟩:=hl j y v' f t F;refine⟨G,r',?_⟩;rcases q with q | ⟨k,c',e,z'⟩
    ·exact .inl q
    ·refine .inr ⟨k,c',e,z'.sameBut hs ?_⟩;rintro rfl;exact hj (z7u K f (I.ok.inj _ _ _ e hc ▸ hi))
  ·by_cases gK:c'=c
   ·subst gK;exact⟨_,J⟩
   ·obtain⟨w2,R⟩:=I.cell y c' e;exact⟨w2,R.sameBut hs gK⟩
  ·obtain⟨e,n,ne,nf,d⟩:=I.pin p hp;refine⟨(hs.2 p.1 ?_).trans e,n,ne,nf,d⟩;intro q;rw [q,O]at e;have q':oc=p.2:=Option.some.inj e;exact d C (by rw [<-q'];exact Z)
theorem z7j{v:V}(I:Inv X pins σ H s)(d:X.N.Nodup)(hi:X.N[i]? =some x)(a:Loc X.env.scope x)(r:RelV v u)
  (h:∀s',Inv X pins (σ.set i (some v)) H s'->Q () s') (b:X.fn x=true\/X.env.scope.names.lookup x=some .local:=by first | exact .inl rfl | exact .inr rfl | assumption):wpAny M A (storeName X.env x u) Q E s:=
 z5E I d hi a r (λs' c _=>h s' c) b
theorem Inv.call'(I:Inv X pins σ H s)(f:s'.os=s.os)(u:Un (frs X.stack) ch H H' s.heap s'.heap)(hok:HOk X.prog X.w H' s'.heap)(d:AllBare s'.gens)
  (a:∀b∈ch,(b∈X.ex\/X.s₀.heap.objs.size<=b)/\b≠X.env.locals/\(∀x c,X.env.cells.lookup x=some c->c≠b)/\∀p∈X.pn ++ pins,p.1≠b):Inv X pins σ H' s':=by
 obtain⟨h',g',d',t',o'⟩:=s';have e:o'=s.os:=f;subst e;exact I.call (g':=g') (t':=t') (d':=d') u hok d a
end
abbrev XK:=Value->Option Addr->Hp->Prop
abbrev St:=List (Option V)
abbrev VK:=V->Hp->Prop
abbrev TE:=St->Hp->VK->Prop
abbrev TT:=St->Hp->(Bool->Hp->Prop)->Prop
abbrev TA:=St->Hp->(List V->Hp->Prop)->Prop
structure Ends where
 nx:St->Hp->Prop
 rt:VK
 bk:St->Hp->Prop:=λ_ _=>False
 ct:St->Hp->Prop:=λ_ _=>False
abbrev TS:=Ends->St->Hp->Prop
def EP(X:Cx)(pins:List (Addr×Obj))(σ:St)(Q:VK)(u:Value)(s':Shared):Prop:=∃v H',Inv X pins σ H' s'/\RelV v u/\Q v H'
def TP(X:Cx)(pins:List (Addr×Obj))(σ:St)(Q:Bool->Hp->Prop)(b:Bool)(s':Shared):Prop:=∃H',Inv X pins σ H' s'/\Q b H'
def AP(X:Cx)(pins:List (Addr×Obj))(σ:St)(Q:List V->Hp->Prop)(us:List Value)(s':Shared):Prop:=∃vs H',Inv X pins σ H' s'/\zL vs us/\Q vs H'
def SP(X:Cx)(pins:List (Addr×Obj))(D:Ends)(f:Flow)(s':Shared):Prop:=
 match f with
 | .next=>∃σ' H',Inv X pins σ' H' s'/\D.nx σ' H'
 | .brk=>∃σ' H',Inv X pins σ' H' s'/\D.bk σ' H'
 | .cont=>∃σ' H',Inv X pins σ' H' s'/\D.ct σ' H'
 | .ret u=>∃v σ' H',Inv X pins σ' H' s'/\RelV v u/\D.rt v H'
def PE(X:Cx)(e:Expr)(t:TE):Prop:=
 ∀(pins:List (Addr×Obj)) (s:Shared) (σ:St) (H:Hp) (Q:VK),Inv X pins σ H s->t σ H Q->wpAny (model X.prog X.w) X.A (eval e X.env) (EP X pins σ Q) X.xe s
def PT(X:Cx)(e:Expr)(t:TT):Prop:=
 ∀(pins:List (Addr×Obj)) (s:Shared) (σ:St) (H:Hp) (Q:Bool->Hp->Prop),Inv X pins σ H s->t σ H Q->wpAny (model X.prog X.w) X.A (isTrue e X.env (eval e X.env)) (TP X pins σ Q) X.xe s
def PW(X:Cx)(e:Expr)(t:TT):Prop:=
 ∀(whole:Sem Value) (pins:List (Addr×Obj)) (s:Shared) (σ:St) (H:Hp) (Q:Bool->Hp->Prop),Inv X pins σ H s->t σ H Q->wpAny (model X.prog X.w) X.A (isTrue e X.env whole) (TP X pins σ Q) X.xe s
variable{e:Expr}
def PW.pt{t:TT}(h:PW X e t):PT X e t:=h _
def PA(X:Cx)(es:List Expr)(t:TA):Prop:=
 ∀(pos:Pos) (pins:List (Addr×Obj)) (s:Shared) (σ:St) (H:Hp) (Q:List V->Hp->Prop),Inv X pins σ H s->t σ H Q->wpAny (model X.prog X.w) X.A (spliced (backTo pos (starEach es X.env))) (AP X pins σ Q) X.xe s
def PS(X:Cx)(st:Stmt)(t:TS):Prop:=
 ∀(pins:List (Addr×Obj)) (s:Shared) (σ:St) (H:Hp) (D:Ends),Inv X pins σ H s->t D σ H->wpAny (model X.prog X.w) X.A (exec st X.env) (SP X pins D) X.xe s
def PSs(X:Cx)(st:List Stmt)(t:TS):Prop:=
 ∀(pins:List (Addr×Obj)) (s:Shared) (σ:St) (H:Hp) (D:Ends),Inv X pins σ H s->t D σ H->wpAny (model X.prog X.w) X.A (execs st X.env) (SP X pins D) X.xe s
def thn{α:Type}{t:Sem α}{Q b:α->Shared->Prop}(h:wpAny M A t Q E s)(c:∀a s,Q a s->b a s):wpAny M A t b E s:=qY h c λ_ _ x=>x
variable{Q:Value->Shared->Prop}{pos:Pos}{ta:TE}
section
def z7c(i:Nat):TE:=λσ H Q=>∃v,σ[i]? =some (some v)/\Q v H
def tC(v:V):TE:=λ_ H Q=>Q v H
theorem z2s(b:X.N[i]? =some x)(d:Vis X.env.scope x)(hd:(x == ("__debug__":Str))=false:=by decide)(a:(x == ("__classdict__":Str))=false:=by decide):PE X (.Name x pos) (z7c i):=by
 intro pins s σ H Q I h;obtain⟨v,e,h⟩:=h;obtain⟨m,hn,hl⟩:=I.loc;obtain⟨u,r,l⟩:=hl i x v b e d;have fin:EP X pins σ Q u s:=⟨v,H,I,r,h⟩;rcases l with⟨hk,hm⟩ | ⟨hk,c,hc,aA⟩
 ·exact wpAny_Name (wpAny_loadName_local I.ok.kind hk hn hm fin) hd
 ·rcases hk with hk | hk
  ·exact wpAny_Name (wpAny_loadName_cell I.ok.kind hk hc aA fin) hd
  ·exact wpAny_Name (wpAny_loadName_free I.ok.kind hk hc aA fin a) hd
def za{i j pos}:PE X (.Constant (.int i) j pos) (tC (.int i)):=λ_ _ _ H _ I h=>wpAny_Constant_int ⟨.int i,H,I.tok _,⟨_,rfl⟩,h⟩
def yd{b j pos}:PE X (.Constant (.bool b) j pos) (tC (.bl b)):=λ_ _ _ H _ I h=>Constant_bool ⟨.bl b,H,I,rfl,h⟩
def z0V{j pos}:PE X (.Constant .none j pos) (tC .non):=λ_ _ _ H _ I h=>Constant_none ⟨.non,H,I,rfl,h⟩
def zo{x j pos}:PE X (.Constant (.str x) j pos) (tC (.str x)):=λ_ _ _ H _ I h=>Calls.Constant_str ⟨.str x,H,I.tok _,⟨_,rfl⟩,h⟩
def Gl(X:Cx)(x:Str):Prop:=X.env.kindOf x=some .globalImplicit
theorem z2J{σ:St}(I:Inv X pins σ H s)(a:Gl X x)(hm:X.mg x=some u)(h:Q u s)
  (hd:(x == ("__debug__":Str))=false:=by decide):wpAny (model X.prog X.w) X.A (eval (.Name x pos) X.env) Q E s:=
 Calls.Name_function_global I.ok.kind a (Calls.loadGlobal_global (by rw [I.ok.glob];exact I.mod.glob.keeps I.bk) hm h) hd
theorem z0Z{σ:St}(I:Inv X pins σ H s)(a:Gl X x)(hm:X.mg x=none)(b:bootBuiltins x=some u)(h:Q u s)
  (hn:x≠"__name__":=by decide) (hd:(x == ("__debug__":Str))=false:=by decide):wpAny (model X.prog X.w) X.A (eval (.Name x pos) X.env) Q E s:=by
 obtain⟨mb,h1,h2⟩:=I.mod.blt;exact Calls.Name_function_global I.ok.kind a (Calls.loadGlobal_builtin (by rw [I.ok.glob];exact I.mod.glob.keeps I.bk) hm (by rw [I.ok.blt];exact h1.keeps I.bk) ((h2 x hn).trans b) h) hd
theorem z9j{v:V}(a:Gl X x)(hm:X.mg x=some u)(r:RelV v u)(hd:(x == ("__debug__":Str))=false:=by decide):PE X (.Name x pos) (tC v):=
 λ_ _ _ H _ I h=>z2J I a hm ⟨v,H,I,r,h⟩ hd
theorem yb{v:V}(a:Gl X x)(hm:X.mg x=none)(b:bootBuiltins x=some u)(r:RelV v u)(hn:x≠"__name__":=by decide)(hd:(x == ("__debug__":Str))=false:=by decide):PE X (.Name x pos) (tC v):=
 λ_ _ _ H _ I h=>z0Z I a hm b ⟨v,H,I,r,h⟩ hn hd
variable{a b:Expr}{tb:TE}
def tB(t:TE):TT:=λσ H Q=>t σ H λx H1=>∃c,x= .bl c/\Q c H1
theorem ji{t:TE}(h:PE X e t)(he:∀whole,isTrue e X.env whole=(do let v<-whole;standAt e.pos;holding [v] (truthy v)):=by intro _;rfl):PT X e (tB t):=by
 intro pins s σ H Q I c;refine isTrue_plain (thn (h pins s σ H _ I c) ?_) (he _);rintro v s1 ⟨x,H1,b,r1,a⟩;obtain⟨d,rfl,q⟩:=a;cases r1;exact w0c ⟨H1,b,q⟩
variable{tA eP:TT}{rest:List Expr}
def zfN(t u:TT):TT:=λσ H Q=>t σ H λc H1=>if c=true then u σ H1 Q else Q false H1
def tOr(t u:TT):TT:=λσ H Q=>t σ H λc H1=>if c=true then Q true H1 else u σ H1 Q
def zfA(t:TT):TT:=λσ H Q=>t σ H λc H1=>Q (!c) H1
theorem z26(ha:PT X a tA):PW X (.BoolOp .And [a] pos) tA:=by
 intro b pins s σ H Q I h;refine isTrue_and (thn (ha pins s σ H Q I h) λc s1 e=> ?_);cases c with
 | true=>exact isTrue_and_nil e
 | false=>exact e
theorem z8q(ha:PT X a tA):PW X (.BoolOp .Or [a] pos) tA:=by
 intro b pins s σ H Q I h;refine isTrue_or (thn (ha pins s σ H Q I h) λc s1 e=> ?_);cases c with
 | false=>exact isTrue_or_nil e
 | true=>exact e
theorem z1K(ha:PT X a tA)(f:PW X (.BoolOp .And (b :: rest) pos) eP):PW X (.BoolOp .And (a :: b :: rest) pos) (zfN tA eP):=by
 intro i pins s σ H Q I h;refine isTrue_and (thn (ha pins s σ H _ I h) ?_);rintro c s1 ⟨H1,e,d⟩;cases c with
 | true=>exact f i pins s1 σ H1 Q e d
 | false=>exact⟨H1,e,d⟩
theorem z9g(ha:PT X a tA)(f:PW X (.BoolOp .Or (b :: rest) pos) eP):PW X (.BoolOp .Or (a :: b :: rest) pos) (tOr tA eP):=by
 intro i pins s σ H Q I h;refine isTrue_or (thn (ha pins s σ H _ I h) ?_);rintro c s1 ⟨H1,e,d⟩;cases c with
 | true=>exact⟨H1,e,d⟩
 | false=>exact f i pins s1 σ H1 Q e d
theorem ym(ha:PT X a tA):PT X (.UnaryOp .Not a pos) (zfA tA):=by
 intro pins s σ H Q I h;exact isTrue_not (ha pins s σ H (λc H1=>Q (!c) H1) I h)
def zfb(ta tb:TE):TE:=λσ H Q=>ta σ H λx H1=>∃c,x= .bl c/\if c=true then tb σ H1 Q else Q (.bl false) H1
def zeW(ta:TE):TE:=λσ H Q=>ta σ H λx H1=>∃c,x= .bl c/\Q (.bl (!c)) H1
def zel{op}{t:TE}(h:PE X a t):PE X (.BoolOp op [a] pos) t:=λpins s σ H Q I b=>BoolOp_one (h pins s σ H Q I b)
theorem zem(ha:PE X a ta)(f:PE X (.BoolOp .And (b :: rest) pos) tb):PE X (.BoolOp .And (a :: b :: rest) pos) (zfb ta tb):=by
 intro pins s σ H Q I h;refine BoolOp_and (thn (ha pins s σ H _ I h) ?_);rintro v s1 ⟨x,H1,e,r1,d⟩;obtain⟨c,rfl,d⟩:=d;cases r1;refine w0c ?_;cases c with
 | true=>exact f pins s1 σ H1 Q e d
 | false=>exact⟨.bl false,H1,e,rfl,d⟩
theorem z7U(ha:PE X a ta):PE X (.UnaryOp .Not a pos) (zeW ta):=by
 intro pins s σ H Q I h;refine UnaryOp_ (thn (ha pins s σ H _ I h) ?_);rintro v s1 ⟨x,H1,d,r1,b⟩;obtain⟨c,rfl,b⟩:=b;cases r1;exact not_of (w0c ⟨.bl (!c),H1,d,rfl,b⟩)
end
def SqL(K:W.Frag)(H:Hp)(a:Addr)(xs:List V):Prop:=
 Rd H a (.lst xs)\/
  ∃(o:Obj) (a6:Array Value) (n:Nat),K.lookup a=some o/\o.cls= .type "list"/\o.dict=none/\o.data= .seq a6 n/\a6.size<=sizeLine/\zL xs a6.toList
def SqT(K:W.Frag)(H:Hp)(a:Addr)(xs:List V):Prop:=
 Rd H a (.tup xs)\/
  ∃(o:Obj) (a6:Array Value) (n:Nat),K.lookup a=some o/\o.cls= .type "tuple"/\o.data= .seq a6 n/\a6.size<=sizeLine/\zL xs a6.toList
noncomputable def zfu:Value->Option V
 | .none=>some .non
 | .bool b=>some (.bl b)
 | .int i _=>some (.int i)
 | .str x _=>some (.str x)
 | .bytes b _=>some (.byt b)
 | .float b _=>some (.flt b)
 | .ref a=>some (.ref a)
 | .type n=>some (.ty n)
 | _=>none
theorem RelV.abs{x:V}(r:RelV x u):zfu u=some x:=by
 cases x with
 | non=>cases r;rfl
 | bl _=>cases r;rfl
 | int _=>obtain⟨t,rfl⟩:=r;rfl
 | str _=>obtain⟨t,rfl⟩:=r;rfl
 | byt _=>obtain⟨t,rfl⟩:=r;rfl
 | flt _=>obtain⟨t,rfl⟩:=r;rfl
 | ref _=>cases r;rfl
 | ty _=>cases r;rfl
variable{y:V}
theorem RelV.inj{x:V}(r:RelV x u)(q:RelV y u):x=y:=Option.some.inj (r.abs.symm.trans q.abs)
theorem zL.inj:∀{xs ys:List V} {us:List Value},zL xs us->zL ys us->xs=ys
 | _,_,_,.nil,.nil=>rfl
 | _,_,_,.cons r t,.cons r' t'=>by rw [r.inj r',zL.inj t t']
section
variable{σ:St}{ys:List V}
def SqL.of{K:W.Frag}(h:H a=some (.lst xs)):SqL K H a xs:= .inl (.inl h)
def SqT.of{K:W.Frag}(h:H a=some (.tup xs)):SqT K H a xs:= .inl (.inl h)
theorem Inv.list(I:Inv X pins σ H s)(h:SqL X.K H a xs):∃a6:List Value,zL xs a6/\PlainL s.heap a a6.toArray/\xs.length<=sizeLine:=by
 rcases h with h | ⟨o,a6,n,b,hc,hd,hs,hz,r⟩
 ·obtain⟨z,a6,n,r,e⟩:=h.ok I.hok;exact⟨a6,r,⟨_,n,e,rfl,rfl,rfl⟩,z⟩
 ·refine⟨a6.toList,r,⟨o,n,I.kIn a o b,hc,hd,by simpa using hs⟩,?_⟩;have e:=r.length;simp only [w0O]at e
  lia
theorem Inv.tuple(I:Inv X pins σ H s)(h:SqT X.K H a xs):∃a6:List Value,zL xs a6/\IsTup s.heap a a6.toArray/\xs.length<=sizeLine:=by
 rcases h with h | ⟨o,a6,n,b,hc,hs,hz,r⟩
 ·obtain⟨z,a6,r,p⟩:=h.ok I.hok;exact⟨a6,r,p,z⟩
 ·refine⟨a6.toList,r,⟨o,I.kIn a o b,hc,n,by simpa using hs⟩,?_⟩;have e:=r.length;simp only [w0O]at e
  lia
theorem Inv.list_inj(I:Inv X pins σ H s)(h:SqL X.K H a xs)(h':SqL X.K H a ys):xs=ys:=by
 obtain⟨a6,r,⟨o,n,e,_,_,d⟩,_⟩:=I.list h;obtain⟨its',r',⟨o',c,b,_,_,d'⟩,_⟩:=I.list h';rw [e]at b;cases b;rw [d]at d'
 injection d' with d1 _
 have:a6=its':=by simpa using Q6 Array.toList d1
 subst this;exact r.inj r'
theorem Inv.tuple_inj(I:Inv X pins σ H s)(h:SqT X.K H a xs)(h':SqT X.K H a ys):xs=ys:=by
 obtain⟨a6,r,⟨o,e,_,n,d⟩,_⟩:=I.tuple h;obtain⟨its',r',⟨o',b,_,c,d'⟩,_⟩:=I.tuple h';rw [e]at b;cases b;rw [d]at d'
 injection d' with d1 _
 have:a6=its':=by simpa using Q6 Array.toList d1
 subst this;exact r.inj r'
end
noncomputable abbrev Cx.wish(X:Cx)(E:Value->Shared->Prop):Cx:={X with xe:=E}
noncomputable abbrev Cx.nox(X:Cx):Cx:=X.wish λ_ _=>False
theorem Cx.Ok.wish(ok:X.Ok)(E:Value->Shared->Prop):(X.wish E).Ok:=
 ⟨ok.mod,ok.kind,ok.glob,ok.blt,ok.above,ok.inj,ok.has,ok.cab,ok.hd,ok.frames,ok.stk,ok.exf,ok.bs,ok.bsz,ok.noex,ok.exfs,ok.funs,ok.frf⟩
def Cx.Ok.unwish(ok:(X.wish E).Ok):X.Ok:=
 ⟨ok.mod,ok.kind,ok.glob,ok.blt,ok.above,ok.inj,ok.has,ok.cab,ok.hd,ok.frames,ok.stk,ok.exf,ok.bs,ok.bsz,ok.noex,ok.exfs,ok.funs,ok.frf⟩
variable{D:Ends}
section
variable{σ:St}
theorem Inv.wish(I:Inv X pins σ H s)(E:Value->Shared->Prop):Inv (X.wish E) pins σ H s:=⟨I.ok.wish E,I.os,I.bare,I.base,I.loc,I.cell,I.free,I.freeC,I.pin,I.hok,I.len⟩
def Inv.unwish(I:Inv (X.wish E) pins σ H s):Inv X pins σ H s:=⟨I.ok.unwish,I.os,I.bare,I.base,I.loc,I.cell,I.free,I.freeC,I.pin,I.hok,I.len⟩
theorem SP.unwish{f:Flow}(h:SP (X.wish E) pins D f s'):SP X pins D f s':=by
 cases f with
 | next=>obtain⟨σ',H',I,q⟩:=h;exact⟨σ',H',I.unwish,q⟩
 | brk=>obtain⟨σ',H',I,q⟩:=h;exact⟨σ',H',I.unwish,q⟩
 | cont=>obtain⟨σ',H',I,q⟩:=h;exact⟨σ',H',I.unwish,q⟩
 | ret u=>obtain⟨v,σ',H',I,r,q⟩:=h;exact⟨v,σ',H',I.unwish,r,q⟩
theorem PSs.nox{st:List Stmt}{t:TS}(h:PSs X.nox st t):PSs X st t:=λpins s σ H D I a=>
 qY (h pins s σ H D (I.wish _) a) (λ_ _ q=>q.unwish) λ_ _ z=>False.elim z
end
variable{te:TE}{c:Expr}{tc:TT}
section
variable{st:Stmt}{rest:List Stmt}{t u:TS}
def z2h:TS:=λD σ H=>D.nx σ H
def z1C(t u:TS):TS:=λD σ H=>t {D with nx:=u D} σ H
def zv:PSs X [] z2h:=λ_ _ σ H _ I h=>wpAny_execs_nil ⟨σ,H,I,h⟩
theorem zc(h1:PS X st t)(h2:PSs X rest u):PSs X (st :: rest) (z1C t u):=by
 intro pins s σ H D I h;refine wpAny_execs_cons (thn (h1 pins s σ H {D with nx:=u D} I h) λf s1 q=> ?_);cases f with
 | next=>
  obtain⟨σ',H',a,q⟩:=q;exact h2 pins s1 σ' H' D a q
 | ret v=>exact q
 | brk=>exact q
 | cont=>exact q
theorem zf(h1:PS X st t):PSs X [st] t:=by
 intro pins s σ H D I h;refine wpAny_execs_cons (thn (h1 pins s σ H D I h) λf s1 q=> ?_);cases f with
 | next=>exact wpAny_execs_nil q
 | ret v=>exact q
 | brk=>exact q
 | cont=>exact q
def zdp:PS X (.Pass pos) z2h:=λ_ _ σ H _ I h=>wpAny_Pass ⟨σ,H,I,h⟩
theorem Inv.quiet{σ:St}(I:Inv X pins σ H s):interactive X.env=false:=by simp [interactive,I.ok.kind]
def zfa(te:TE):TS:=λD σ H=>te σ H λ_ H1=>D.nx σ H1
theorem jd(he:PE X e te)(hs:swapsWith e none pos.line X.env=pure false:=by rfl):PS X (.Expr e pos) (zfa te):=by
 intro pins s σ H D I h;exact wpAny_Expr_any (thn (he pins s σ H _ I h) λv s1 ⟨x,H1,b,r1,a⟩=>⟨σ,H1,b,a⟩) I.quiet hs
def zfK(te:TE):TS:=λD σ H=>te σ H D.rt
theorem zr(he:PE X e te):PS X (.Return (some e) pos) (zfK te):=by
 intro pins s σ H D I h;exact wpAny_Return_some (thn (he pins s σ H _ I h) λv s1 ⟨x,H1,b,r1,a⟩=>⟨x,σ,H1,b,r1,a⟩)
def z6u(c:TT)(t u:TS):TS:=λD σ H=>c σ H λb H1=>if b=true then t D σ H1 else u D σ H1
theorem zD{a b:List Stmt}(hc:PT X c tc)(ha:PSs X a t)(i:PSs X b u):PS X (.If c a b pos) (z6u tc t u):=by
 intro pins s σ H D I h;refine wpAny_If (thn (hc pins s σ H _ I h) ?_);rintro d s1 ⟨H1,f,e⟩;cases d with
 | true=>exact ha pins s1 σ H1 D f e
 | false=>exact i pins s1 σ H1 D f e
def zdH:TS:=λ_ _ _=>False
def z30:PS X st zdH:=λ_ _ _ _ _ _ h=>h.elim
end
abbrev TG:=V->St->Hp->(St->Hp->Prop)->Prop
abbrev TGs:=List V->St->Hp->(St->Hp->Prop)->Prop
def PG(X:Cx)(target:Expr)(t:TG):Prop:=
 ∀(pins:List (Addr×Obj)) (s:Shared) (σ:St) (H:Hp) (v:V) (u:Value) (Q:St->Hp->Prop),Inv X pins σ H s->RelV v u->t v σ H Q->
  wpAny (model X.prog X.w) X.A (assign target X.env u) (λ_ s'=>∃σ' H',Inv X pins σ' H' s'/\Q σ' H') X.xe s
def PGs(X:Cx)(a:List Expr)(t:TGs):Prop:=
 ∀(pins:List (Addr×Obj)) (s:Shared) (σ:St) (H:Hp) (vs:List V) (us:List Value) (Q:St->Hp->Prop),Inv X pins σ H s->zL vs us->t vs σ H Q->
  wpAny (model X.prog X.w) X.A (assignInOrder ((assignEach a X.env).map (·.2)) us) (λ_ s'=>∃σ' H',Inv X pins σ' H' s'/\Q σ' H') X.xe s
abbrev zdS:=V->V->V->Hp->(Hp->Prop)->Prop
def zeX(X:Cx)(t:zdS):Prop:=
 ∀(pins:List (Addr×Obj)) (s:Shared) (σ:St) (H:Hp) (o i v:V) (a b u:Value) (Q:Hp->Prop),Inv X pins σ H s->RelV o a->RelV i b->RelV v u->t o i v H Q->
  wpAny (model X.prog X.w) X.A (setItem a b u) (λ_ s'=>∃H',Inv X pins σ H' s'/\Q H') X.xe s
variable{es:List Expr}{n:Nat}{tg:Expr}
def z1F(i:Nat):TG:=λv σ H Q=>Q (σ.set i (some v)) H
theorem z0s(d:X.N.Nodup)(hi:X.N[i]? =some x)(a:Loc X.env.scope x)(b:X.fn x=true\/X.env.scope.names.lookup x=some .local:=by first | exact .inl rfl | exact .inr rfl | assumption):PG X (.Name x pos) (z1F i):=by
 intro pins s σ H v u Q I r h;exact wpAny_assign_Name (z7j I d hi a r (λs' c=>⟨_,H,c,h⟩) b)
def zeG:TGs:=λvs σ H Q=>vs= []/\Q σ H
def z7G(t:TG)(u:TGs):TGs:=λvs σ H Q=>∃v r,vs=v :: r/\t v σ H λσ' H'=>u r σ' H' Q
theorem z8Z:PGs X [] zeG:=by
 intro pins s σ H vs us Q I r h;obtain⟨e,h⟩:=h;subst e;cases r;exact assignInOrder_nil ⟨σ,H,I,h⟩
theorem z2S{t:TG}{u:TGs}(h1:PG X e t)(h2:PGs X es u)
  (hs:(assignEach (e :: es) X.env).map (·.2)=assign e X.env :: (assignEach es X.env).map (·.2):=by rfl):PGs X (e :: es) (z7G t u):=by
 intro pins s σ H vs us Q I r h;obtain⟨v,f,d,h⟩:=h;subst d;cases r with
 | cons r b=>
  rw [hs];refine assignInOrder_cons (thn (h1 pins s σ H _ _ _ I r h) ?_);rintro _ s1 ⟨σ1,H1,c,a⟩;exact h2 pins s1 σ1 H1 _ _ Q c b a
def ze8(K:W.Frag)(n:Nat)(t:TGs):TG:=λv σ H Q=>∃a xs,v= .ref a/\SqT K H a xs/\xs.length=n/\t xs σ H Q
theorem zbc{k:Nat}{t:TGs}(hc:X.calm=true)(h:PGs X es t)
  (hn:(assignEach es X.env).length=n:=by rfl) (i:(assignEach es X.env).findIdx? (·.1)=none:=by rfl):PG X (.Tuple es k pos) (ze8 X.K n t):=by
 intro pins s σ H v u Q I r c;obtain⟨a,xs,l,hq,hl,c⟩:=c;subst l;cases r;obtain⟨a6,d,ht,hz⟩:=I.tuple hq;refine assign_Tuple_tuple (I.ok.hd hc) ht (by simp [hn,<-hl,d.length]) i λh' f=> ?_
 have j:Inv X pins σ H {s with heap:=h'}:=I.kept (t':=s.toks) λb o e=>f b o (wW (wI e)) e
 exact h pins _ σ H xs _ Q j (by simpa using d) c
def zfJ(to b:TE)(t:zdS):TG:=λv σ H Q=>to σ H λo H1=>b σ H1 λi H2=>t o i v H2 λa=>Q σ a
theorem z8e{o i:Expr}{to c:TE}{t:zdS}(f:PE X o to)(hi:PE X i c)(hs:zeX X t)
  (ha:∀v,assign (.Subscript o i pos) X.env v=(do
   let a<-holding [v] (eval o X.env)
   let b<-holding [v,a] (eval i X.env)
   standAt pos
   holding [v,a,b] (setItem a b v)
   release [v,a,b] []):=by intro _;rfl):PG X (.Subscript o i pos) (zfJ to c t):=by
 intro pins s σ H v u Q I r h;rw [ha];refine wy (QE (thn (f pins s σ H _ I h) ?_));rintro a s1 ⟨x,H1,p,r1,e⟩;refine wy (QE (thn (hi pins s1 σ H1 _ p e) ?_));rintro b s2 ⟨y,H2,q,r2,n⟩;refine wy (wpAny_standAt (wy (QE (thn (hs pins s2 σ H2 x y v a b u _ q r1 r2 r n) ?_))));rintro _ w ⟨d,j,l⟩;exact wpAny_release ⟨σ,d,j,l⟩
def zeb(te:TE)(g:TG):TS:=λD σ H=>te σ H λx H1=>g x σ H1 D.nx
theorem z88{g:TG}(he:PE X e te)(b:PG X tg g)(hs:swapsWithSole [tg] e pos.line X.env=pure false:=by rfl)(d:swappedStores [tg] e X.env=pure none:=by rfl)
  (h1:(assignEach [tg] X.env).map (·.2)= [assign tg X.env]:=by rfl):PS X (.Assign [tg] e pos) (zeb te g):=by
 intro pins s σ H D I h;refine wpAny_Assign_stores (thn (he pins s σ H _ I h) ?_) hs d;rintro v s1 ⟨x,H1,c,r1,a⟩;rw [h1];exact thn (b pins s1 σ H1 x v _ c r1 a) λ_ s2 q=>q
theorem yI{pos':Pos}(d:X.N.Nodup)(hi:X.N[i]? =some x)(b:Loc X.env.scope x)(he:PE X e te)(hs:swapsWith e (some (.Name x pos')) pos.line X.env=pure false:=by rfl)(c:X.fn x=true\/X.env.scope.names.lookup x=some .local:=by first | exact .inl rfl | exact .inr rfl | assumption):
  PS X (.Assign [.Name x pos'] e pos) (zeb te (z1F i)):=by
 intro pins s σ H D I h;refine wpAny_Assign_Name (thn (he pins s σ H _ I h) ?_) hs;rintro v s1 ⟨y,H1,f,r1,a⟩;exact z7j f d hi b r1 (λs2 j=>⟨_,H1,j,a⟩) c
variable{tb:TS}{body:List Stmt}
def z1q(c:TT)(tb:TS):TS:=λD σ H=>∃W:Nat->St->Hp->Prop,(∃m,W m σ H)/\∀m σ H,W m σ H->
 c σ H λb H1=>if b=true then∃N:St->Hp->Prop,(∀σ' H',N σ' H'->∃a,a < m/\W a σ' H')/\tb {D with nx:=N,ct:=N,bk:=D.nx} σ H1 else D.nx σ H1
theorem zbs(hp:PassesOwn (model X.prog X.w) X.A X.env X.xe)(hc:PT X c tc)(t:PSs X body tb):PS X (.While c body [] pos) (z1q tc tb):=by
 intro pins s σ H D I h;obtain⟨W,⟨r,w0⟩,turn⟩:=h;refine wpAny_While (codeAny_whileLoop (λn s'=>∃σ' H',Inv X pins σ' H' s'/\W n σ' H') ?_ r ⟨σ,H,I,w0⟩);rintro n s1 ⟨σ1,H1,u,w1⟩;refine w0F hp (thn (hc pins s1 σ1 H1 _ u (turn n σ1 H1 w1)) ?_);rintro b s2 ⟨H2,q,e⟩;cases b with
 | true=>
  obtain⟨N,p,e⟩:=e;rw [wY rfl];refine w0F hp (thn (t pins s2 σ1 H2 _ q e) λf x d=> ?_);cases f with
  | next=>
   obtain⟨σ3,a,j,o⟩:=d;obtain⟨i,hm,l⟩:=p σ3 a o;exact⟨i,hm,σ3,a,j,l⟩
  | cont=>
   obtain⟨σ3,a,j,o⟩:=d;obtain⟨i,hm,l⟩:=p σ3 a o;exact⟨i,hm,σ3,a,j,l⟩
  | brk=>exact d
  | ret v=>exact d
 | false=>
  rw [wM wO];exact wpAny_execs_nil ⟨σ1,H2,q,e⟩
structure It where
 go:Nat->Hp->Prop
 yld:Nat->Hp->V->Hp->Prop
 stop:Nat->Hp->Prop
def z3P(X:Cx)(pins:List (Addr×Obj))(H:Hp)(b:Addr):Prop:=
 H b=none/\b≠X.env.locals/\b∉X.fs/\(b∈X.ex\/X.s₀.heap.objs.size<=b)/\(∀x c,X.env.cells.lookup x=some c->c≠b)/\∀p∈X.pn ++ pins,p.1≠b
variable{σ:St}
theorem Inv.fpOk(I:Inv X pins σ H s)(a:s.heap.objs.size<=b)(hn:H' b=none):z3P X pins H' b:=by
 refine⟨hn,QC (wJ I.lt a),I.nofs a,.inr (wP I.sz a),λx c e z=> ?_,λp hp z=> ?_⟩
 ·obtain⟨v,q⟩:=I.cell x c e;exact absurd (wJ q.lt (by rw [z];exact a)) (QU _)
 ·exact absurd (wJ (wI (I.pin p hp).1) (by rw [z];exact a)) (QU _)
structure Turn(P:Program)(w:World)(K:W.Frag)(tg:Expr)(J:It)(fp:List Addr)(it:Addr)(tn:Nat->Heap->Prop):Prop where
 mem:it∈fp
 obj:∀i h,tn i h->∀b∈fp,∃o,h.get? b=some o/\∀v,o.data≠ .cell v
 keep:∀i h h',tn i h->(∀b∈fp,∀o,h.get? b=some o->h'.get? b=some o)->tn i h'
 item:∀(X:Cx),X.prog=P->X.w=w->X.K=K->X.calm=true->∀(i:Nat) (pins:List (Addr×Obj)) (s:Shared) (σ:St) (H:Hp) (E:Value->Shared->Prop),Inv X pins σ H s->(∀b∈fp,z3P X pins H b)->tn i s.heap->J.go i H->
  wpAny (model P w) X.A (pyNext (.ref it)) (λr s1=>∃u,r=some u/\
   wpAny (model P w) X.A (letOwnedTupleGo tg (.ref it) u) (λ_ s2=>∃x H',Inv X pins σ H' s2/\RelV x u/\J.yld i H x H'/\tn (i + 1) s2.heap/\∀b∈fp,H' b=none) E s1) E s
 done:∀(X:Cx),X.prog=P->X.w=w->X.K=K->X.calm=true->∀(i:Nat) (pins:List (Addr×Obj)) (s:Shared) (σ:St) (H:Hp) (E:Value->Shared->Prop),Inv X pins σ H s->(∀b∈fp,z3P X pins H b)->tn i s.heap->J.stop i H->
  wpAny (model P w) X.A (pyNext (.ref it)) (λr s1=>r=none/\Inv X pins σ H s1) E s
 self:∀(A:Around) (i:Nat) (s:Shared) (Q:Value->Shared->Prop) (E:Value->Shared->Prop),tn i s.heap->Q (.ref it) s->wpAny (model P w) A (pyIter (.ref it)) Q E s
abbrev TI:=St->Hp->(It->Hp->Prop)->Prop
def PIE(X:Cx)(pins:List (Addr×Obj))(σ:St)(tg:Expr)(R:It->Hp->Prop)(a:Value)(s2:Shared):Prop:=
 ∃(it:Addr) (fp:List Addr) (tn:Nat->Heap->Prop) (J:It) (H':Hp),a= .ref it/\Inv X pins σ H' s2/\Turn X.prog X.w X.K tg J fp it tn/\tn 0 s2.heap/\(∀b∈fp,z3P X pins H' b)/\R J H'
def PI(X:Cx)(tg iter:Expr)(wi:TI):Prop:=
 ∀(pins:List (Addr×Obj)) (s:Shared) (σ:St) (H:Hp) (R:It->Hp->Prop),Inv X pins σ H s->wi σ H R->
  wpAny (model X.prog X.w) X.A (eval iter X.env) (λv s1=>wpAny (model X.prog X.w) X.A (pyIter v) (PIE X pins σ tg R) X.xe s1) X.xe s
theorem z7x{o:Obj}{n:String}{vs:Array Value}{Q:Unit->Shared->Prop}(b:s.heap.get? it=some o)(hc:o.cls= .type n)(hd:o.data= .fields vs)
  (hn: ["enumerate","zip","dict_itemiterator","dict_reverseitemiterator","odict_iterator","itertools.zip_longest","itertools.pairwise"].contains n=false) (a:Q () s):wpAny M A (letOwnedTupleGo tg (.ref it) u) Q E s:=by
 unfold letOwnedTupleGo;cases tg <;> first
  | exact wV a
  | (cases u <;> first
    | exact wV a
    | (refine wy (wpAny_load b ?_)
       rw [hc,hd]
       show wpAny M A (if(["enumerate","zip","dict_itemiterator","dict_reverseitemiterator","odict_iterator","itertools.zip_longest","itertools.pairwise"].contains n && vs[0]? == some (rawInt _))=true then _ else _) Q E s
       rw [wM (by intro h;rw [hn,w19]at h;cases h)];exact wV a))
noncomputable def Itl(K:W.Frag)(a:Addr):It:=
 ⟨λi H=>∃xs x,SqL K H a xs/\xs[i]? =some x,λi H x H'=>H'=H/\∀xs,SqL K H a xs->xs[i]? =some x,λi H=>∃xs,SqL K H a xs/\xs.length<=i⟩
noncomputable def Itt(K:W.Frag)(a:Addr):It:=
 ⟨λi H=>∃xs x,SqT K H a xs/\xs[i]? =some x,λi H x H'=>H'=H/\∀xs,SqT K H a xs->xs[i]? =some x,λi H=>∃xs,SqT K H a xs/\xs.length<=i⟩
noncomputable def Itr(lo:Int)(n:Nat):It:=⟨λi _=>i < n,λi H x H'=>H'=H/\x= .int (lo + i),λi _=>n<=i⟩
variable{K:W.Frag}
theorem z9C(a it:Addr):Turn P w K tg (Itl K a) [it] it (λi h=>h.IsListIter it a i) where
 mem:=by simp
 obj:=λi h st b f=>by
  have e:b=it:=by simpa using f
  subst e;obtain⟨o,e,c,d⟩:=st;exact⟨o,e,λv z=>by rw [d]at z;cases z⟩
 keep:=λi h h' st k=>st.at λo e=>k it (by simp) o e
 item:=by
  intro X l B C hc i pins s σ H E I j st t;subst l B C;obtain⟨xs,x,hq,q⟩:=t;obtain⟨a6,r,p,hz⟩:=I.list hq;obtain⟨u,M,G⟩:=r.get q;obtain⟨f0,f1,f2,n,A,y⟩:=j it (by simp);refine wpAny_pyNext_list_item st p.isList (x:=u) (by simpa using M) λh' D J=> ?_
  have L:Inv X pins σ H {s with heap:=h'}:=I.turned (t':=s.toks) (λb o f e=>(J.2 b f).trans e) f0 f1 n A y;obtain⟨o,e,c,d⟩:=id D;exact⟨u,rfl,z7x (s:={s with heap:=h'}) e c d (by decide) ⟨x,H,L,G,⟨rfl,λys F=>by rw [I.list_inj F hq];exact q⟩,D,λb f=>(j b f).1⟩⟩
 done:=by
  intro X l B C hc i pins s σ H E I j st t;subst l B C;obtain⟨xs,hq,q⟩:=t;obtain⟨a6,r,p,hz⟩:=I.list hq;obtain⟨f0,f1,f2,n,A,y⟩:=j it (by simp);have hl:=r.length;exact wpAny_pyNext_list_end (I.ok.hd hc) st p.isList (by simp;lia) λh' N=>⟨rfl,I.turned (t':=s.toks) (λb o f e=>N b o f e) f0 f1 n A y⟩
 self:=λ_ _ _ _ _ st h=>wpAny_pyIter_listiter st h
theorem z8r(a it:Addr):Turn P w K tg (Itt K a) [it] it (λi h=>h.IsTupleIter it a i) where
 mem:=by simp
 obj:=λi h st b f=>by
  have e:b=it:=by simpa using f
  subst e;obtain⟨o,e,c,d⟩:=st;exact⟨o,e,λv z=>by rw [d]at z;cases z⟩
 keep:=λi h h' st k=>st.at λo e=>k it (by simp) o e
 item:=by
  intro X l B C hc i pins s σ H E I j st t;subst l B C;obtain⟨xs,x,hq,q⟩:=t;obtain⟨a6,r,p,hz⟩:=I.tuple hq;obtain⟨u,M,G⟩:=r.get q;obtain⟨f0,f1,f2,n,A,y⟩:=j it (by simp);refine wpAny_pyNext_tuple_item st (show s.heap.IsTuple a a6.toArray from p) (x:=u) (by simpa using M) λh' D J=> ?_
  have L:Inv X pins σ H {s with heap:=h'}:=I.turned (t':=s.toks) (λb o f e=>(J.2 b f).trans e) f0 f1 n A y;obtain⟨o,e,c,d⟩:=id D;exact⟨u,rfl,z7x (s:={s with heap:=h'}) e c d (by decide) ⟨x,H,L,G,⟨rfl,λys F=>by rw [I.tuple_inj F hq];exact q⟩,D,λb f=>(j b f).1⟩⟩
 done:=by
  intro X l B C hc i pins s σ H E I j st t;subst l B C;obtain⟨xs,hq,q⟩:=t;obtain⟨a6,r,p,hz⟩:=I.tuple hq;obtain⟨f0,f1,f2,n,A,y⟩:=j it (by simp);have hl:=r.length;exact wpAny_pyNext_tuple_end (I.ok.hd hc) st (show s.heap.IsTuple a a6.toArray from p) (by simp;lia) λh' N=>⟨rfl,I.turned (t':=s.toks) (λb o f e=>N b o f e) f0 f1 n A y⟩
 self:=λ_ _ _ _ _ st h=>wpAny_pyIter_tupleiter st h
theorem z8s(it:Addr)(lo:Int)(n:Nat):Turn P w K tg (Itr lo n) [it] it (λi h=>IsRangeIter h it (lo + (i:Nat) * 1) ((n:Int) - (i:Nat)) 1) where
 mem:=by simp
 obj:=λi h st b a=>by
  have e:b=it:=by simpa using a
  subst e;exact⟨_,st,λv z=>by
   have z':Data.fields _=Data.cell v:=z;cases z'⟩
 keep:=λi h h' st k=>k it (by simp) _ st
 item:=by
  intro X d q r hc i pins s σ H E I c st j;subst d q r;obtain⟨f0,f1,f2,f,p,l⟩:=c it (by simp);have W:=Walks.range (prog:=X.prog) (w:=X.w) (I.ok.hd hc) it lo 1 n;refine W.item i s _ _ j st λv h' tk A u kk=> ?_
  obtain⟨t,rfl⟩:=A;have x:Inv X pins σ H {s with heap:=h',toks:=tk}:=I.turned (λb o a e=>kk b o (by simpa using a) e) f0 f1 f p l;refine⟨_,rfl,z7x (s:={s with heap:=h',toks:=tk}) (n:="range_iterator") u rfl rfl (by decide) ⟨.int (lo + i),H,x,⟨t,?_⟩,⟨rfl,rfl⟩,u,λb a=>(c b a).1⟩⟩;rw [Int.mul_one]
 done:=by
  intro X d q r hc i pins s σ H E I c st j;subst d q r;obtain⟨f0,f1,f2,f,p,l⟩:=c it (by simp);exact wpAny_pyNext_range_end (I.ok.hd hc) st (by have:n<=i:=j;lia) λh' y=>⟨rfl,I.turned (t':=s.toks) (λb o a e=>y b o a e) f0 f1 f p l⟩
 self:=λ_ _ _ _ _ st h=>wpAny_pyIter_rangeiter st h
variable{l:Expr}{tl:TE}{p:Pos}{fp:List Addr}
def zdy(K:W.Frag)(tl:TE):TI:=λσ H R=>tl σ H λx H1=>∃a,x= .ref a/\(∃xs,SqL K H1 a xs)/\R (Itl K a) H1
def zfS(K:W.Frag)(tl:TE):TI:=λσ H R=>tl σ H λx H1=>∃a,x= .ref a/\(∃xs,SqT K H1 a xs)/\R (Itt K a) H1
theorem zR(hl:PE X l tl):PI X tg l (zdy X.K tl):=by
 intro pins s σ H R I h;refine thn (hl pins s σ H _ I h) ?_;rintro v s1 ⟨x,H1,c,r1,d⟩;obtain⟨a,e,⟨xs,hq⟩,q⟩:=d;subst e;cases r1;obtain⟨a6,i,p,hz⟩:=c.list hq;refine wpAny_pyIter_list p.isList ?_;refine⟨s1.heap.objs.size,[s1.heap.objs.size],_,_,H1,rfl,c.kept (t':=s1.toks) λb o e=>wo _ e,z9C a _,⟨_,q5 _ rfl,rfl,rfl⟩,λb f=> ?_,q⟩;have e:b=s1.heap.objs.size:=by simpa using f
 subst e;exact c.fpOk (ww _) (c.hok.fresh (ww _))
theorem z34(hl:PE X l tl):PI X tg l (zfS X.K tl):=by
 intro pins s σ H R I h;refine thn (hl pins s σ H _ I h) ?_;rintro v s1 ⟨x,H1,c,r1,d⟩;obtain⟨a,e,⟨xs,hq⟩,q⟩:=d;subst e;cases r1;obtain⟨a6,i,p,hz⟩:=c.tuple hq;refine wpAny_pyIter_tuple (show s1.heap.IsTuple a a6.toArray from p) ?_;refine⟨s1.heap.objs.size,[s1.heap.objs.size],_,_,H1,rfl,c.kept (t':=s1.toks) λb o e=>wo _ e,z8r a _,⟨_,q5 _ rfl,rfl,rfl⟩,λb f=> ?_,q⟩;have e:b=s1.heap.objs.size:=by simpa using f
 subst e;exact c.fpOk (ww _) (c.hok.fresh (ww _))
theorem z7m{R:It->Hp->Prop}{lo hi:Int}{t u v:Tok}{tk:Nat}(I:Inv X pins σ H s)(h1: -(2 ^ 62)<=lo)(h2:lo < 2 ^ 62)(c: -(2 ^ 62)<=hi)(d:hi < 2 ^ 62)
  (q:R (Itr lo (hi - lo).toNat) H):wpAny (model X.prog X.w) X.A (pyIter (.ref s.heap.objs.size)) (PIE X pins σ tg R) E {s with heap:=s.heap.push {cls:= .type "range",data:= .fields #[.int lo t,.int hi u,.int 1 v]},toks:=tk}:=by
 refine wpAny_pyIter_range (IsRange.new ..) (small_one h1 h2 c d) ?_;have a:Inv X pins σ H {s with heap:=s.heap.push {cls:= .type "range",data:= .fields #[.int lo t,.int hi u,.int 1 v]},toks:=tk}:=I.kept λb o e=>wo _ e
 refine⟨(s.heap.push {cls:= .type "range",data:= .fields #[.int lo t,.int hi u,.int 1 v]}).objs.size,[(s.heap.push {cls:= .type "range",data:= .fields #[.int lo t,.int hi u,.int 1 v]}).objs.size],_,_,H,rfl,
  a.kept (t':=tk) λb o e=>wo _ e,z8s _ lo (hi - lo).toNat,?_,λb f=> ?_,q⟩
 ·have h:lo + ((0:Nat):Int) * 1=lo:=by simp
  have i:(((hi - lo).toNat:Nat):Int) - ((0:Nat):Int)=Builtin.Range.rangeSize lo hi 1:=by rw [rangeSize_one];split <;> lia
  show IsRangeIter _ _ (lo + ((0:Nat):Int) * 1) ((((hi - lo).toNat:Nat):Int) - ((0:Nat):Int)) 1
  rw [h,i];exact q5 _ rfl
 ·have e:b=(s.heap.push {cls:= .type "range",data:= .fields #[.int lo t,.int hi u,.int 1 v]}).objs.size:=by simpa using f
  subst e;exact a.fpOk (ww _) (a.hok.fresh (ww _))
def zeU(ta:TA):TI:=λσ H R=>ta σ H λvs H1=>∃j:Int,vs= [.int j]/\-(2 ^ 62)<=j/\j < 2 ^ 62/\R (Itr 0 j.toNat) H1
def zfo(ta:TA):TI:=λσ H R=>ta σ H λvs H1=>∃i j:Int,vs= [.int i,.int j]/\(-(2 ^ 62)<=i/\i < 2 ^ 62/\-(2 ^ 62)<=j/\j < 2 ^ 62)/\R (Itr i (j - i).toNat) H1
theorem yj{a:Expr}{ta:TA}(i:Gl X "range")(hm:X.mg "range"=none)(ha:PA X [a] ta)(hs:starEach [a] X.env= [(false,eval a X.env)]:=by rfl):PI X tg (.Call (.Name "range" p) [a] [] pos) (zeU ta):=by
 intro pins s σ H R I h;refine Call_ (z0Z I i hm boot_range (Q9 (thn (ha pos pins s σ H _ I h) ?_) hs rfl));rintro us s1 ⟨vs,H1,f,r1,b⟩;obtain⟨j,e,b,d,q⟩:=b;subst e;cases r1 with
 | cons r c=>
  cases c;obtain⟨t,rfl⟩:=r;exact call_range_1 (z7m f (by lia) (by lia) b d (by simpa using q))
theorem z9J{a b:Expr}{ta:TA}(w:Gl X "range")(hm:X.mg "range"=none)(ha:PA X [a,b] ta)(hs:starEach [a,b] X.env= [(false,eval a X.env),(false,eval b X.env)]:=by rfl)(f:starEach [b] X.env= [(false,eval b X.env)]:=by rfl):
  PI X tg (.Call (.Name "range" p) [a,b] [] pos) (zfo ta):=by
 intro pins s σ H R I h;refine Call_ (z0Z I w hm boot_range (Q9 (thn (ha pos pins s σ H _ I h) ?_) (by rw [hs,f]) (by rw [f];rfl)));rintro us s1 ⟨vs,H1,u,r1,c⟩;obtain⟨i,j,e,⟨c,n,l,o⟩,q⟩:=c;subst e;cases r1 with
 | cons r d=>
  cases d with
  | cons r' d=>
   cases d;obtain⟨t,rfl⟩:=r;obtain⟨t',rfl⟩:=r';exact call_range_2 (z7m u c n l o q)
def zah(wi:TI)(g:TG)(tb:TS):TS:=λD σ H=>wi σ H λJ H1=>∃W:Nat->Nat->St->Hp->Prop,(∃m,W 0 m σ H1)/\∀i m σ H,W i m σ H->
 (J.stop i H/\D.nx σ H)\/(J.go i H/\∃N:St->Hp->Prop,(∀σ' H',N σ' H'->∃a,a < m/\W (i + 1) a σ' H')/\∀x H',J.yld i H x H'->g x σ H' λσ2 H2=>tb {D with nx:=N,ct:=N,bk:=D.nx} σ2 H2)
noncomputable def z4C(fp:List Addr)(h:Heap):List (Addr×Obj):=fp.filterMap λb=>(h.get? b).map λo=>(b,o)
theorem z1l{o:Obj}(a:b∈fp)(e:h.get? b=some o):(b,o)∈z4C fp h:=List.mem_filterMap.mpr ⟨b,a,by rw [e];rfl⟩
theorem zab{p:Addr×Obj}(hp:p∈z4C fp h):p.1∈fp/\h.get? p.1=some p.2:=by
 obtain⟨b,a,e⟩:=List.mem_filterMap.mp hp;cases q:h.get? b with
 | none=>rw [q]at e;cases e
 | some o=>
  rw [q]at e;have c:(b,o)=p:=Option.some.inj e;subst c;exact⟨a,q⟩
theorem Inv.pinned(I:Inv X pins σ H s)(f:∀b∈fp,z3P X pins H b)(h:∀b∈fp,∃o,s.heap.get? b=some o/\∀v,o.data≠ .cell v):Inv X (pins ++ z4C fp s.heap) σ H s:=
 I.pins_of λp hp=>(wB.mp hp).elim (λz=>I.pin p (wA _ z)) λz=>by
  obtain⟨a,e⟩:=zab z;obtain⟨f0,f1,f2,_⟩:=f p.1 a;obtain⟨o,c,d⟩:=h p.1 a;rw [e]at c;cases c;exact⟨e,f0,f1,f2,d⟩
def Inv.unpinned{pl:List (Addr×Obj)}(I:Inv X (pins ++ pl) σ H s):Inv X pins σ H s:=I.pins_of λp hp=>I.pin p (wA _ (wZ _ hp))
theorem zdT{iter:Expr}{wi:TI}{g:TG}(hp:PassesOwn (model X.prog X.w) X.A X.env X.xe)(hc:X.calm=true)(hi:PI X tg iter wi)(O:PG X tg g)(a:PSs X body tb)
  (hs:∀x,foldedSetIterable iter X.env x=pure x:=by intro _;rfl):PS X (.For tg iter body [] pos) (zah wi g tb):=by
 intro pins s σ H D I h;refine wpAny_For (thn (hi pins s σ H _ I h) λv s1 h1=>thn h1 λm7 s2 h2=> ?_) hs;obtain⟨it,fp,tn,J,H2,e,M,T,P,f2,W,⟨U,w0⟩,turn⟩:=h2;subst e;have y:∀{H':Hp},(∀b∈fp,H' b=none)->∀b∈fp,z3P X pins H' b:=λhn b a=>⟨hn b a,(f2 b a).2⟩
 refine codeAny_forLoop_any (λn s'=>∃i σ' H',Inv X pins σ' H' s'/\tn i s'.heap/\(∀b∈fp,H' b=none)/\W i n σ' H') ?_ U ⟨0,σ,H2,M,P,λb a=>(f2 b a).1,w0⟩;rintro n E ⟨i,σ3,q,L,C,F,w3⟩;rcases turn i n σ3 q w3 with⟨stop,qn⟩ | ⟨go,N,hN,step⟩
 ·refine w0F hp (thn (T.done X rfl rfl rfl hc i pins E σ3 q X.xe L (y F) C stop) ?_);rintro r s4 ⟨hr,Z⟩;subst hr;exact wpAny_execs_nil ⟨σ3,q,Z,qn⟩
 ·refine w0F hp (thn (T.item X rfl rfl rfl hc i pins E σ3 q X.xe L (y F) C go) ?_);rintro r s4 ⟨u,hr,h4⟩;subst hr;refine w0F hp (thn h4 ?_);rintro _ K ⟨x,G,Q,S,y5,z,nQ⟩;have B:=Q.pinned (y nQ) (T.obj _ _ z);refine w0F hp (thn (O _ K σ3 G x u _ B S (step x G y5)) ?_);rintro _ s6 ⟨σ6,Y,I6,q6⟩;refine w0F hp (thn (a _ s6 σ6 Y _ I6 q6) λf t l=> ?_);have again:∀{σ7:St} {c:Hp},Inv X (pins ++ z4C fp K.heap) σ7 c t->N σ7 c->∃m,m < n/\∃i σ' H',Inv X pins σ' H' t/\tn i t.heap/\(∀b∈fp,H' b=none)/\W i m σ' H':=λ{σ7 c} j p=>by
   obtain⟨m',hm,w7⟩:=hN σ7 c p;refine⟨m',hm,i + 1,σ7,c,j.unpinned,T.keep _ _ _ z λb a o e=>(j.pin (b,o) (wA _ (wA _ (z1l a e)))).1,λb a=> ?_,w7⟩;obtain⟨o,e,d⟩:=T.obj _ _ z b a;exact(j.pin (b,o) (wA _ (wA _ (z1l a e)))).2.1
  cases f with
  | next=>obtain⟨σ7,c,j,p⟩:=l;exact again j p
  | cont=>obtain⟨σ7,c,j,p⟩:=l;exact again j p
  | brk=>obtain⟨σ7,c,j,l⟩:=l;exact⟨σ7,c,j.unpinned,l⟩
  | ret v=>obtain⟨x7,σ7,c,j,R,l⟩:=l;exact⟨x7,σ7,c,j.unpinned,R,l⟩
theorem yg{g:TG}(b:Nat->St->Hp->Prop)(h0:b 0 σ H)(hl:∀i σ H,i<=xs.length->b i σ H->SqL K H a xs)
  (hs:∀i x σ H,xs[i]? =some x->b i σ H->g x σ H λσ2 H2=>tb {D with nx:=b (i + 1),ct:=b (i + 1),bk:=D.nx} σ2 H2) (hd:∀σ H,b xs.length σ H->D.nx σ H):
  ∃W:Nat->Nat->St->Hp->Prop,(∃m,W 0 m σ H)/\∀i m σ H,W i m σ H->
   ((Itl K a).stop i H/\D.nx σ H)\/((Itl K a).go i H/\∃N:St->Hp->Prop,(∀σ' H',N σ' H'->∃c,c < m/\W (i + 1) c σ' H')/\∀x H',(Itl K a).yld i H x H'->g x σ H' λσ2 H2=>tb {D with nx:=N,ct:=N,bk:=D.nx} σ2 H2):=by
 refine⟨λi m σ H=>m=xs.length - i/\i<=xs.length/\b i σ H,⟨xs.length,by simp,qQ _,h0⟩,?_⟩;rintro i m σ H ⟨rfl,hi,p⟩;have q:=hl i σ H hi p;by_cases ag:i < xs.length
 ·refine .inr ⟨⟨xs,xs[i],q,by simp [ag]⟩,b (i + 1),λσ' H' p'=>⟨xs.length - (i + 1),by lia,rfl,ag,p'⟩,λx H' y=> ?_⟩;obtain⟨e,y⟩:=y;subst e;exact hs i x σ _ (y xs q) p
 ·have e:i=xs.length:=by lia
  subst e;exact .inl ⟨⟨xs,q,ww _⟩,hd σ H p⟩
theorem z5Y{g:TG}(b:Nat->St->Hp->Prop)(h0:b 0 σ H)(hl:∀i σ H,i<=xs.length->b i σ H->SqT K H a xs)
  (hs:∀i x σ H,xs[i]? =some x->b i σ H->g x σ H λσ2 H2=>tb {D with nx:=b (i + 1),ct:=b (i + 1),bk:=D.nx} σ2 H2) (hd:∀σ H,b xs.length σ H->D.nx σ H):
  ∃W:Nat->Nat->St->Hp->Prop,(∃m,W 0 m σ H)/\∀i m σ H,W i m σ H->
   ((Itt K a).stop i H/\D.nx σ H)\/((Itt K a).go i H/\∃N:St->Hp->Prop,(∀σ' H',N σ' H'->∃c,c < m/\W (i + 1) c σ' H')/\∀x H',(Itt K a).yld i H x H'->g x σ H' λσ2 H2=>tb {D with nx:=N,ct:=N,bk:=D.nx} σ2 H2):=by
 refine⟨λi m σ H=>m=xs.length - i/\i<=xs.length/\b i σ H,⟨xs.length,by simp,qQ _,h0⟩,?_⟩;rintro i m σ H ⟨rfl,hi,p⟩;have q:=hl i σ H hi p;by_cases ag:i < xs.length
 ·refine .inr ⟨⟨xs,xs[i],q,by simp [ag]⟩,b (i + 1),λσ' H' p'=>⟨xs.length - (i + 1),by lia,rfl,ag,p'⟩,λx H' y=> ?_⟩;obtain⟨e,y⟩:=y;subst e;exact hs i x σ _ (y xs q) p
 ·have e:i=xs.length:=by lia
  subst e;exact .inl ⟨⟨xs,q,ww _⟩,hd σ H p⟩
theorem kR{lo:Int}{g:TG}(a:Nat->St->Hp->Prop)(h0:a 0 σ H)
  (hs:∀i σ H,i < n->a i σ H->g (.int (lo + i)) σ H λσ2 H2=>tb {D with nx:=a (i + 1),ct:=a (i + 1),bk:=D.nx} σ2 H2) (hd:∀σ H,a n σ H->D.nx σ H):
  ∃W:Nat->Nat->St->Hp->Prop,(∃m,W 0 m σ H)/\∀i m σ H,W i m σ H->
   ((Itr lo n).stop i H/\D.nx σ H)\/((Itr lo n).go i H/\∃N:St->Hp->Prop,(∀σ' H',N σ' H'->∃b,b < m/\W (i + 1) b σ' H')/\∀x H',(Itr lo n).yld i H x H'->g x σ H' λσ2 H2=>tb {D with nx:=N,ct:=N,bk:=D.nx} σ2 H2):=by
 refine⟨λi m σ H=>m=n - i/\i<=n/\a i σ H,⟨n,by simp,qQ _,h0⟩,?_⟩;rintro i m σ H ⟨rfl,hi,p⟩;by_cases ag:i < n
 ·refine .inr ⟨ag,a (i + 1),λσ' H' p'=>⟨n - (i + 1),by lia,rfl,ag,p'⟩,λx H' y=> ?_⟩;obtain⟨e,y⟩:=y;subst e y;exact hs i σ _ ag p
 ·have e:i=n:=by lia
  subst e;exact .inl ⟨ww _,hd σ H p⟩
abbrev R2:=V->V->Hp->VK->Prop
def OpR(X:Cx)(f:Value->Value->Sem Value)(r:R2):Prop:=
 ∀(pins:List (Addr×Obj)) (s:Shared) (σ:St) (H:Hp) (x y:V) (v u:Value) (Q:VK),Inv X pins σ H s->RelV x v->RelV y u->r x y H Q->
  wpAny (model X.prog X.w) X.A (f v u) (EP X pins σ Q) X.xe s
def UnR(X:Cx)(f:Value->Sem Value)(r:V->Hp->VK->Prop):Prop:=
 ∀(pins:List (Addr×Obj)) (s:Shared) (σ:St) (H:Hp) (x:V) (v:Value) (Q:VK),Inv X pins σ H s->RelV x v->r x H Q->
  wpAny (model X.prog X.w) X.A (f v) (EP X pins σ Q) X.xe s
def kj(X:Cx)(f:Value)(r:List V->Hp->VK->Prop):Prop:=
 ∀(pins:List (Addr×Obj)) (s:Shared) (σ:St) (H:Hp) (xs:List V) (us:List Value) (Q:VK),Inv X pins σ H s->zL xs us->r xs H Q->
  wpAny (model X.prog X.w) X.A (call f us) (EP X pins σ Q) X.xe s
def zfr(X:Cx)(r:V->Hp->(Bool->Hp->Prop)->Prop):Prop:=
 ∀(pins:List (Addr×Obj)) (s:Shared) (σ:St) (H:Hp) (x:V) (v:Value) (Q:Bool->Hp->Prop),Inv X pins σ H s->RelV x v->r x H Q->
  wpAny (model X.prog X.w) X.A (truthy v) (TP X pins σ Q) X.xe s
def tOp(r:R2)(ta tb:TE):TE:=λσ H Q=>ta σ H λx H1=>tb σ H1 λy H2=>r x y H2 Q
def tUn(r:V->Hp->VK->Prop)(ta:TE):TE:=λσ H Q=>ta σ H λx H1=>r x H1 Q
def rI(C:Int->Int->Prop)(g:Int->Int->V):R2:=λx y H Q=>∃i j,x= .int i/\y= .int j/\C i j/\Q (g i j) H
def rI0(g:Int->Int->V):R2:=λx y H Q=>∃i j,x= .int i/\y= .int j/\Q (g i j) H
def rU(g:Int->V):V->Hp->VK->Prop:=λx H Q=>∃i,x= .int i/\Q (g i) H
variable{f:Value->Value->Sem Value}
section
variable{a b:Expr}{tb tc:TE}
theorem zep(ha:PE X a ta)(i:PE X b tb){R:V->V->Hp->Prop}(I:Inv X pins σ H s)
  (h:ta σ H λx H1=>tb σ H1 λy H2=>R x y H2)  
  (e:∀v u s2 x y H2,Inv X pins σ H2 s2->RelV x v->RelV y u->R x y H2->wpAny (model X.prog X.w) X.A (f v u) Q X.xe s2):
  wpAny (model X.prog X.w) X.A (eval a X.env) (λv n=>wpAny (model X.prog X.w) X.A (eval b X.env) (λu c=>wpAny (model X.prog X.w) X.A (f v u) Q X.xe c) X.xe n) X.xe s:=by
 refine thn (ha pins s σ H _ I h) ?_;rintro v s1 ⟨x,H1,l,r1,d⟩;refine thn (i pins s1 σ H1 _ l d) ?_;rintro u s2 ⟨y,H2,o,r2,j⟩;exact e v u s2 x y H2 o r1 r2 j
theorem zp{op:Operator}{r:R2}(c:OpR X (binaryOp op) r)(ha:PE X a ta)(d:PE X b tb):PE X (.BinOp a op b pos) (tOp r ta tb):=by
 intro pins s σ H Q I h;exact wpAny_BinOp (zep ha d I h λv u s2 x y H2 i f e q=>c pins s2 σ H2 x y v u Q i f e q)
theorem z5M{op:UnaryOp}{r:V->Hp->VK->Prop}(d:UnR X (unaryOp op) r)(ha:PE X a ta):PE X (.UnaryOp op a pos) (tUn r ta):=by
 intro pins s σ H Q I h;exact UnaryOp_ (thn (ha pins s σ H _ I h) λv s1 ⟨x,H1,c,r1,b⟩=>d pins s1 σ H1 x v Q c r1 b)
theorem opI{C:Int->Int->Prop}{g:Int->Int->Int}
  (rule:∀(i j:Int) (t u:Tok) (s:Shared) (Q:Value->Shared->Prop) (E:Value->Shared->Prop),C i j->Q (.int (g i j) s.toks) {s with toks:=s.toks + 1}->wpAny (model X.prog X.w) X.A (f (.int i t) (.int j u)) Q E s):
  OpR X f (rI C λi j=> .int (g i j)):=by
 intro pins s σ H x y v u Q I b a h;obtain⟨i,j,rfl,rfl,hc,q⟩:=h;obtain⟨t,rfl⟩:=b;obtain⟨t',rfl⟩:=a;exact rule i j t t' s _ _ hc ⟨.int (g i j),H,I.tok _,⟨_,rfl⟩,q⟩
theorem zfi{g:Int->Int->Int}
  (rule:∀(i j:Int) (t u:Tok) (s:Shared) (Q:Value->Shared->Prop) (E:Value->Shared->Prop),Q (.int (g i j) s.toks) {s with toks:=s.toks + 1}->wpAny (model X.prog X.w) X.A (f (.int i t) (.int j u)) Q E s):
  OpR X f (rI0 λi j=> .int (g i j)):=by
 intro pins s σ H x y v u Q I b a h;obtain⟨i,j,rfl,rfl,q⟩:=h;obtain⟨t,rfl⟩:=b;obtain⟨t',rfl⟩:=a;exact rule i j t t' s _ _ ⟨.int (g i j),H,I.tok _,⟨_,rfl⟩,q⟩
theorem zdR{g:Int->Int->Bool}
  (rule:∀(i j:Int) (t u:Tok) (s:Shared) (Q:Value->Shared->Prop) (E:Value->Shared->Prop),Q (.bool (g i j)) s->wpAny (model X.prog X.w) X.A (f (.int i t) (.int j u)) Q E s):
  OpR X f (rI0 λi j=> .bl (g i j)):=by
 intro pins s σ H x y v u Q I b a h;obtain⟨i,j,rfl,rfl,q⟩:=h;obtain⟨t,rfl⟩:=b;obtain⟨t',rfl⟩:=a;exact rule i j t t' s _ _ ⟨.bl (g i j),H,I,rfl,q⟩
def zfH(i j:Int):Prop:=0 < j/\j < 1073741824
def zff(i j:Int):Prop:=0<=j/\j<=1000000/\i.natAbs < 2 ^ 64
def zdG(i j:Int):Prop:=(-(2 ^ 64) < i/\i < 2 ^ 64)\/(-(2 ^ 64) < j/\j < 2 ^ 64)
theorem zdG.ok{i j:Int}(h:zdG i j):IntMulOk i j:=by
 rcases h with⟨h1,h2⟩ | ⟨h1,h2⟩
 ·exact .of_left (intBits_le_64 h1 h2)
 ·exact .of_right (intBits_le_64 h1 h2)
def yy:OpR X (binaryOp .Add) (rI0 λi j=> .int (i + j)):=zfi λ_ _ _ _ _ _ _ q=>add_int q
def z3b:OpR X (binaryOp .Sub) (rI0 λi j=> .int (i - j)):=zfi λ_ _ _ _ _ _ _ q=>sub_int q
def z4q:OpR X (binaryOp .Mult) (rI zdG λi j=> .int (i * j)):=opI λ_ _ _ _ _ _ _ hc q=>mul_int q hc.ok
theorem yc:OpR X (binaryOp .FloorDiv) (rI zfH λi j=> .int (i / j)):=opI λi j _ _ _ _ _ hc q=>by
 have h1:(0:Int) < j:=hc.1;have h2:j < 1073741824:=hc.2;exact floordiv_int (by lia) (by rw [Int.fdiv_eq_ediv_of_nonneg i (by lia)];exact q) (.inl (PyProof.noPylong_small (by lia)))
theorem zU:OpR X (binaryOp .Mod) (rI (λ_ j=>0 < j) λi j=> .int (i % j)):=opI λi j _ _ _ _ _ hc q=>by
 have h1:(0:Int) < j:=hc;exact mod_int' (by lia) (by rw [Int.fmod_eq_emod_of_nonneg i (by lia)];exact q)
def zeu:OpR X (binaryOp .Pow) (rI zff λi j=> .int (i ^ j.toNat)):=opI λ_ _ _ _ _ _ _ hc q=>pow_int_small hc.1 hc.2.1 hc.2.2 q
theorem unI{f:Value->Sem Value}{g:Int->Int}
  (rule:∀(i:Int) (t:Tok) (s:Shared) (Q:Value->Shared->Prop) (E:Value->Shared->Prop),Q (.int (g i) s.toks) {s with toks:=s.toks + 1}->wpAny (model X.prog X.w) X.A (f (.int i t)) Q E s):
  UnR X f (rU λi=> .int (g i)):=by
 intro pins s σ H x v Q I a h;obtain⟨i,rfl,q⟩:=h;obtain⟨t,rfl⟩:=a;exact rule i t s _ _ ⟨.int (g i),H,I.tok _,⟨_,rfl⟩,q⟩
def z38:UnR X (unaryOp .USub) (rU λi=> .int (-i)):=unI λ_ _ _ _ _ q=>neg_int q
end
noncomputable def zeN:V->V->Bool
 | .non,.non=>true | .non,.int _=>true | .int _,.non=>true | .non,.bl _=>true | .bl _,.non=>true | .non,.str _=>true | .str _,.non=>true
 | .int _,.int _=>true | .bl _,.bl _=>true | .str _,.str _=>true | .byt _,.byt _=>true
 | .int _,.str _=>true | .str _,.int _=>true | .bl _,.str _=>true | .str _,.bl _=>true
 | _,_=>false
def rEq:R2:=λx y H Q=>zeN x y=true/\Q (.bl (decide (x=y))) H
def rNe:R2:=λx y H Q=>zeN x y=true/\Q (.bl (!decide (x=y))) H
theorem z9k{i j:Int}:decide (V.int i=V.int j)=(i == j):=by
 rw [QY];simp
theorem zbk{i j:Bool}:decide (V.bl i=V.bl j)=(i == j):=by
 rw [QY];simp
theorem z8J{i j:Str}:decide (V.str i=V.str j)=(i == j):=by
 rw [QY];simp
theorem z8G{i j:Array UInt8}:decide (V.byt i=V.byt j)=(i.toList == j.toList):=by
 rw [QY];cases i;cases j;simp
variable{op:CmpOp}
section
variable{a b:Expr}{tb tc:TE}
theorem je{Q:VK}{k k':Bool}(I:Inv X pins σ H s)(q:Q (.bl k) H)(e:k=k'):EP X pins σ Q (.bool k') s:=by
 subst e;exact⟨.bl k,H,I,rfl,q⟩
theorem zM:OpR X (compareOp .Eq) rEq:=by
 intro pins s σ H x y v u Q I b a h;obtain⟨hs,q⟩:=h;cases x with
 | non=>
  cases b;cases y with
  | non=>cases a;exact PySem.EqNone.eq_none_none (je I q (by simp))
  | bl j=>cases a;exact PySem.EqNone.eq_none_bool (je I q (by simp))
  | int j=>obtain⟨t',rfl⟩:=a;exact PySem.EqNone.eq_none_int (je I q (by simp))
  | str j=>obtain⟨t',rfl⟩:=a;exact PySem.EqNone.eq_none_str (je I q (by simp))
  | _=>exact absurd (show false=true from hs) wO
 | bl i=>
  cases b;cases y with
  | non=>cases a;exact PySem.EqNone.eq_bool_none (je I q (by simp))
  | bl j=>cases a;exact eq_bool (je I q zbk)
  | str j=>obtain⟨t',rfl⟩:=a;exact PySem.EqMixed.eq_bool_str (je I q (by simp))
  | _=>exact absurd (show false=true from hs) wO
 | int i=>
  obtain⟨t,rfl⟩:=b;cases y with
  | non=>cases a;exact PySem.EqNone.eq_int_none (je I q (by simp))
  | int j=>obtain⟨t',rfl⟩:=a;exact eq_int (je I q z9k)
  | str j=>obtain⟨t',rfl⟩:=a;exact PySem.EqMixed.eq_int_str (je I q (by simp))
  | _=>exact absurd (show false=true from hs) wO
 | str i=>
  obtain⟨t,rfl⟩:=b;cases y with
  | non=>cases a;exact PySem.EqNone.eq_str_none (je I q (by simp))
  | bl j=>cases a;exact PySem.EqMixed.eq_str_bool (je I q (by simp))
  | int j=>obtain⟨t',rfl⟩:=a;exact PySem.EqMixed.eq_str_int (je I q (by simp))
  | str j=>obtain⟨t',rfl⟩:=a;exact eq_str (je I q z8J)
  | _=>exact absurd (show false=true from hs) wO
 | byt i=>
  obtain⟨t,rfl⟩:=b;cases y with
  | byt j=>obtain⟨t',rfl⟩:=a;exact PySem.W.eq_bytes (je I q z8G)
  | _=>exact absurd (show false=true from hs) wO
 | _=>cases y <;> exact absurd (show false=true from hs) wO
theorem z1I:OpR X (compareOp .NotEq) rNe:=by
 intro pins s σ H x y v u Q I b a h;obtain⟨hs,q⟩:=h;cases x with
 | non=>
  cases b;cases y with
  | non=>cases a;exact PySem.EqNone.ne_none_none (je I q (by simp))
  | bl j=>cases a;exact PySem.EqNone.ne_none_bool (je I q (by simp))
  | int j=>obtain⟨t',rfl⟩:=a;exact PySem.EqNone.ne_none_int (je I q (by simp))
  | str j=>obtain⟨t',rfl⟩:=a;exact PySem.EqNone.ne_none_str (je I q (by simp))
  | _=>exact absurd (show false=true from hs) wO
 | bl i=>
  cases b;cases y with
  | non=>cases a;exact PySem.EqNone.ne_bool_none (je I q (by simp))
  | bl j=>cases a;exact ne_bool (je I q (Q6 not zbk))
  | str j=>obtain⟨t',rfl⟩:=a;exact PySem.EqMixed.ne_bool_str (je I q (by simp))
  | _=>exact absurd (show false=true from hs) wO
 | int i=>
  obtain⟨t,rfl⟩:=b;cases y with
  | non=>cases a;exact PySem.EqNone.ne_int_none (je I q (by simp))
  | int j=>obtain⟨t',rfl⟩:=a;exact ne_int (je I q (Q6 not z9k))
  | str j=>obtain⟨t',rfl⟩:=a;exact PySem.EqMixed.ne_int_str (je I q (by simp))
  | _=>exact absurd (show false=true from hs) wO
 | str i=>
  obtain⟨t,rfl⟩:=b;cases y with
  | non=>cases a;exact PySem.EqNone.ne_str_none (je I q (by simp))
  | bl j=>cases a;exact PySem.EqMixed.ne_str_bool (je I q (by simp))
  | int j=>obtain⟨t',rfl⟩:=a;exact PySem.EqMixed.ne_str_int (je I q (by simp))
  | str j=>obtain⟨t',rfl⟩:=a;exact ne_str (je I q (Q6 not z8J))
  | _=>exact absurd (show false=true from hs) wO
 | byt i=>
  obtain⟨t,rfl⟩:=b;cases y with
  | byt j=>obtain⟨t',rfl⟩:=a;exact PySem.W.ne_bytes (je I q (Q6 not z8G))
  | _=>exact absurd (show false=true from hs) wO
 | _=>cases y <;> exact absurd (show false=true from hs) wO
def z5L:OpR X (compareOp .Lt) (rI0 λi j=> .bl (decide (i < j))):=zdR λ_ _ _ _ _ _ _ q=>lt_int q
def zdD:OpR X (compareOp .LtE) (rI0 λi j=> .bl (decide (i<=j))):=zdR λ_ _ _ _ _ _ _ q=>le_int q
def z7D:OpR X (compareOp .Gt) (rI0 λi j=> .bl (decide (j < i))):=zdR λ_ _ _ _ _ _ _ q=>gt_int q
theorem zev:OpR X (compareOp .Is) (λx y H Q=>y= .non/\Q (.bl (decide (x= .non))) H):=by
 intro pins s σ H x y v u Q I a b h;obtain⟨rfl,q⟩:=h;cases b;refine is_none_gen (je I q ?_);cases x <;> first
  | (cases a;rfl)
  | (obtain⟨t,rfl⟩:=a;rfl)
theorem z6D:OpR X (compareOp .IsNot) (λx y H Q=>y= .non/\Q (.bl (!decide (x= .non))) H):=by
 intro pins s σ H x y v u Q I a b h;obtain⟨rfl,q⟩:=h;cases b;refine isnot_none_gen (je I q ?_);cases x <;> first
  | (cases a;rfl)
  | (obtain⟨t,rfl⟩:=a;rfl)
theorem zaK(b:Expr)(h:op≠ .In:=by decide)(h2:op≠ .NotIn:=by decide):behindInMarks op b=false:=by
 have c:(op == CmpOp.In)=false:=by cases op <;> first | rfl | exact absurd rfl h
 have a:(op == CmpOp.NotIn)=false:=by cases op <;> first | rfl | exact absurd rfl h2
 cases b <;> simp [behindInMarks,c,a]
theorem z3Y{r:R2}(c:OpR X (compareOp op) r)(ha:PE X a ta)(d:PE X b tb)(hm:behindInMarks op b=false):PE X (.Compare a [op] [b] pos) (tOp r ta tb):=by
 intro pins s σ H Q I h;exact wpAny_Compare1 (zep ha d I h λv u s2 x y H2 i f e q=>c pins s2 σ H2 x y v u Q i f e q) hm
def zdA(t:TE):TT:=λσ H Q=>t σ H λx H'=>∃k,x= .bl k/\Q k H'
theorem kZ{r:R2}(i:OpR X (compareOp op) r)(ha:PE X a ta)(l:PE X b tb)(hm:behindInMarks op b=false):PT X (.Compare a [op] [b] pos) (zdA (tOp r ta tb)):=by
 intro pins s σ H Q I h;refine wpAny_isTrue_Compare1 (thn (ha pins s σ H _ I h) λv s1 ⟨x,H1,p,r1,f⟩=>thn (l pins s1 σ H1 _ p f) λu s2 ⟨y,H2,q,r2,o⟩=>
  thn (i pins s2 σ H2 x y v u _ q r1 r2 o) λc t ⟨z,d,j,r3,k,e,n⟩=> ?_) hm
 subst e;cases r3;exact w0c ⟨d,j,n⟩
def zfc(K:W.Frag)(x:V)(H:Hp)(k:Bool):Prop:=
 match x with
 | .non=>k=false
 | .bl b=>k=b
 | .int i=>k=(i != 0)
 | .str y=>y.length<=sizeLine/\k=((y.length:Int) != 0)
 | .byt y=>y.size<=sizeLine/\k=((y.size:Int) != 0)
 | .ref p=>(∃xs,SqL K H p xs/\k= !xs.isEmpty)\/(∃xs,SqT K H p xs/\k= !xs.isEmpty)\/∃kvs,H p=some (.dK kvs)/\k= !kvs.isEmpty
 | _=>False
theorem z8j{kvs:List (κ×V)}{vs:List (κ×Value)}(r:KV kvs vs):(!vs.isEmpty)= !kvs.isEmpty:=by
 cases r <;> rfl
theorem z4Q{a6:List Value}(r:zL xs a6):(!a6.toArray.isEmpty)= !xs.isEmpty:=by
 cases r <;> simp
theorem z2v:(sizeLine:Nat) < 2 ^ 63:=by rw [Qi];decide
theorem zet:zfr X (λx H Q=>∃k,zfc X.K x H k/\Q k H):=by
 intro pins s σ H x v Q I c h;obtain⟨k,e,q⟩:=h;have hl:=z2v;have hs:sizeLine=16777216:=Qi;cases x with
 | non=>
  cases c;have a:k=false:=e;subst a;exact truthy_none ⟨H,I,q⟩
 | bl b=>
  cases c;have a:k=b:=e;subst a;exact w0c ⟨H,I,q⟩
 | int i=>
  obtain⟨t,rfl⟩:=c;have a:k=(i != 0):=e;subst a;exact PySem.P.truthy_int ⟨H,I,q⟩
 | str y=>
  obtain⟨t,rfl⟩:=c;obtain⟨f,a⟩:y.length<=sizeLine/\k=((y.length:Int) != 0):=e;subst a;exact PySem.P.truthy_str (by lia) ⟨H,I.tok _,q⟩
 | byt y=>
  obtain⟨t,rfl⟩:=c;obtain⟨f,a⟩:y.size<=sizeLine/\k=((y.size:Int) != 0):=e;subst a;exact PySem.W.truthy_bytes (by lia) ⟨H,I.tok _,q⟩
 | ref p=>
  cases c;have a:(∃xs,SqL X.K H p xs/\k= !xs.isEmpty)\/(∃xs,SqT X.K H p xs/\k= !xs.isEmpty)\/∃kvs,H p=some (.dK kvs)/\k= !kvs.isEmpty:=e
  rcases a with⟨xs,hx,a⟩ | ⟨xs,hx,a⟩ | ⟨kvs,hx,a⟩
  ·subst a;obtain⟨a6,r,pl,hz⟩:=I.list hx;have hlen:=r.length;exact wpAny_truthy_list pl.isList (by simp only [wz];lia) ⟨H,I.tok _,by rw [z4Q r];exact q⟩
  ·subst a;obtain⟨a6,r,pl,hz⟩:=I.tuple hx;have hlen:=r.length;exact truthy_tuple pl (by simp only [wz];lia) ⟨H,I.tok _,by rw [z4Q r];exact q⟩
  ·subst a;obtain⟨hz,d,vs,r,m⟩:kvs.length<=sizeLine/\(p == sysModules)=false/\∃vs,KV kvs vs/\s.heap.DictOf (jw X.prog X.w) p vs:=I.hok p _ hx
   have hlen:kvs.length=vs.length:=Paired.length r;exact wpAny_truthy_dict d m (by lia) ⟨H,I.tok _,by rw [z8j r];exact q⟩
 | _=>exact(show False from e).elim
theorem z1H(ha:PE X a ta)(he:∀whole,isTrue a X.env whole=(do let v<-whole;standAt a.pos;holding [v] (truthy v))):
  PT X a (λσ H Q=>ta σ H λx H'=>∃k,zfc X.K x H' k/\Q k H'):=by
 intro pins s σ H Q I h;exact isTrue_plain (thn (ha pins s σ H _ I h) λv s1 ⟨x,H1,c,r1,b⟩=>zet pins s1 σ H1 x v Q c r1 b) (he _)
theorem zn:OpR X (binaryOp .Add) (λx y H Q=>∃i j,x= .str i/\y= .str j/\i.length + j.length<=sizeLine/\Q (.str (i ++ j)) H):=by
 intro pins s σ H x y v u Q I b a h;obtain⟨i,j,rfl,rfl,hz,q⟩:=h;obtain⟨t,rfl⟩:=b;obtain⟨t',rfl⟩:=a;exact add_str (λt' tk=>⟨.str (i ++ j),H,I.tok _,⟨_,rfl⟩,q⟩) hz
theorem vals1{x:V}(r:zL [x] us):∃u,us= [u]/\RelV x u:=by
 cases r with
 | cons r1 r2=>cases r2;exact⟨_,rfl,r1⟩
theorem vals2{x:V}(r:zL [x,y] us):∃u a,us= [u,a]/\RelV x u/\RelV y a:=by
 cases r with
 | cons r1 r2=>
  cases r2 with
  | cons r3 b=>cases b;exact⟨_,_,rfl,r1,r3⟩
theorem z9R(hc:X.calm=true):kj X (.builtin "max") (λxs H Q=>∃i j,xs= [.int i,.int j]/\Q (.int (if j > i then j else i)) H):=by
 intro pins s σ H xs us Q I r h;obtain⟨i,j,rfl,q⟩:=h;obtain⟨u,a,rfl,⟨t,rfl⟩,⟨t',rfl⟩⟩:=vals2 r;refine max_two_ints (I.ok.hd hc) λh' tk k=>⟨_,H,I.kept k,?_,q⟩
 by_cases hj:j > i
 ·rw [wY hj,wY hj];exact⟨_,rfl⟩
 ·rw [wM hj,wM hj];exact⟨_,rfl⟩
theorem z5e(hc:X.calm=true):kj X (.builtin "min") (λxs H Q=>∃i j,xs= [.int i,.int j]/\Q (.int (if j < i then j else i)) H):=by
 intro pins s σ H xs us Q I r h;obtain⟨i,j,rfl,q⟩:=h;obtain⟨u,a,rfl,⟨t,rfl⟩,⟨t',rfl⟩⟩:=vals2 r;refine min_two_ints (I.ok.hd hc) λh' tk k=>⟨_,H,I.kept k,?_,q⟩
 by_cases hj:j < i
 ·rw [wY hj,wY hj];exact⟨_,rfl⟩
 ·rw [wM hj,wM hj];exact⟨_,rfl⟩
theorem z5j:kj X (.type "int") (λxs H Q=>(∃i,xs= [.int i]/\Q (.int i) H)\/∃k,xs= [.bl k]/\Q (.int (if k then 1 else 0)) H):=by
 intro pins s σ H xs us Q I r h;rcases h with⟨i,rfl,q⟩ | ⟨k,rfl,q⟩
 ·obtain⟨u,rfl,t,rfl⟩:=vals1 r;exact call_int_int ⟨.int i,H,I,⟨_,rfl⟩,q⟩
 ·obtain⟨u,rfl,r1⟩:=vals1 r;cases r1;exact call_int_bool ⟨.int (if k then 1 else 0),H,I.tok _,⟨_,rfl⟩,q⟩
theorem z6i:kj X (.type "str") (λxs H Q=>∃i,xs= [.int i]/\i.natAbs.log2 < 1920/\Q (.str (toString i)) H):=by
 intro pins s σ H xs us Q I r h;obtain⟨i,rfl,hz,q⟩:=h;obtain⟨u,rfl,t,rfl⟩:=vals1 r;exact PySem.P.str_of_int hz ⟨.str _,H,I.tok _,⟨_,rfl⟩,q⟩
end
structure ObjM(h:Heap)(x dx C:Addr)(mA:Str->Option Value):Prop where
 obj:h.get? x=some (PySem.W.instObj C dx)
 ns:h.Ns1 dx mA
 ne:dx≠x
variable{dx:Addr}{mA:Str->Option Value}
theorem z9U(n:h.Ns1 dx mA):∃od,h.get? dx=some od/\∀name,PySem.W.lookIn name od=some (mA name):=by
 obtain⟨o,es,ep,b,hd,c,_,hm⟩:=n;refine⟨o,b,λname=> ?_⟩;have e:=hm name;unfold nsFind findBy at e;rw [<-Array.find?_toList]at e;unfold PySem.W.lookIn;rw [hd];dsimp only;split
 ·rename_i y q;rw [q]at e;exact Q6 some e
 ·rename_i q;rw [q]at e;have a:es.toList.any (·.refKey)=false:=by
   rw [List.any_eq_false];intro y d;obtain⟨z,t,f⟩:=c y (Array.mem_toList_iff.mp d);simp [DictEntry.refKey,f]
  have a':¬es.toList.any (·.refKey)=true:=by rw [a];exact wO
  rw [wM a'];exact Q6 some e
variable{C:Addr}
theorem ObjM.look{x:Addr}(I:ObjM h x dx C mA):∃od,PySem.W.InstAt h x (PySem.W.instObj C dx) C (some od)/\∀name,PySem.W.lookIn name od=some (mA name):=
 let ⟨od,ho,hl⟩:=z9U I.ns
 ⟨od,⟨I.obj,rfl,rfl,ho⟩,hl⟩
variable{prog:Program}{kw:List (Str×Value)}
section
variable{K:W.Frag}{x f:Addr}{name:Str}{v:Value}
theorem get_map{expr:Bool}(X:K.In s.heap)(I:ObjM s.heap x dx C mA)(b:PySem.W.plainGet K C name=true)(c:PySem.W.hasDictIn K C=true)
  (ha:PySem.W.findIn K (.ref C) name=some none) (d:mA name=some v) (a:PySem.W.handedIn v=true) (h:Q v {s with toks:=s.toks + 1}):
  wpAny (model prog w) A (getAttr (.ref x) name expr) Q E s:=by
 obtain⟨od,J,hl⟩:=I.look;exact PySem.W.get_value X J (PySem.W.plainGet_of b).1 (PySem.W.findObj_own c ha rfl (by rw [hl,d])) a h
theorem zc2{pl:Sem Bool}{Q:Value×List Value->Shared->Prop}(X:K.In s.heap)(I:ObjM s.heap x dx C mA)(a:PySem.W.plainGet K C name=true)
  (b:PySem.W.findIn K (.ref C) name=some (some (.ref f))) (ht:PySem.W.isFn K (.ref f)=true) (c:mA name=none) (h:Q (.ref f,[.ref x]) s):
  wpAny (model prog w) A (getMethod (.ref x) name pl) Q E s:=by
 obtain⟨od,J,hl⟩:=I.look;exact PySem.W.method_fn X J (PySem.W.plainGet_of a).1 (PySem.W.plainGet_of a).2 b (Qt.mp ht) (by show(PySem.W.lookIn name od).map (·.isSome)=some false;rw [hl,c];rfl) h
theorem zcM{ns:List Str}{Q:Unit->Shared->Prop}(X:K.In s.heap)(I:ObjM s.heap x dx C mA)
  (hs:PySem.W.findIn K (.ref C) "__setattr__"=some (some (.builtin "object.__setattr__"))) (hp:PySem.W.plainOver K C=true) (ht:PySem.W.takerIn K C name=some none) (l:PySem.W.hasDictIn K C=true)
  (o:PySem.Within mA ns) (hsz:ns.length<=sizeLine)
  (h:∀h',ObjM h' x dx C (λy=>if y=name then some v else mA y)->Heap.SameBut dx s.heap h'->Q () {s with heap:=h',toks:=s.toks + 2}):
  wpAny (model prog w) A (setAttr (.ref x) name v) Q E s:=by
 obtain⟨od,J,hl⟩:=I.look;refine PySem.W.set_plain X J hs (PySem.W.osa_open (s:={s with toks:=s.toks + 1}) (r:=none) X J hp ht λb=> ?_);obtain⟨cd,hc,f⟩:=PySem.W.any_some l;have i:s.heap.get? x=some ⟨.ref C,some dx,.plain,#[]⟩:=I.obj;refine wy (wV (wy (wy (wpAny_loadPart i (wy (PySem.W.Looks.here (s:={s with toks:=s.toks + 1}) (PySem.W.looks_clsIn X hc) ?_))))));rw [f];refine wV (a:=some dx) (wy (wV (wy ?_)));refine wpAny_nsSet1 (s:={s with toks:=s.toks + 1}) I.ns λh' d c=> ?_
 obtain⟨q,p,t,j,n,e⟩:=d.count (PySem.Within.cons name v o);refine wy (wpAny_lookBehind j (by rw [n];exact pastItsLine_dict (wP e (by rw [wN];lia))) ?_);exact wV (h _ ⟨(c.2 _ (w1r I.ne)).trans I.obj,d,I.ne⟩ c)
theorem zci{R:Result->Shared->Prop}{vs:List Value}(X:K.In s.heap)(hm:PySem.W.makesIn K C=true)
  (hi:PySem.W.findIn K (.ref C) "__init__"=some (some (.ref f))) (a:PySem.W.typeIn K (.ref f)=some (.type "function"))
  (h:codeAny (model prog w) (A.under (.builtin "type.__call__" ⟨.ref C :: vs,kw⟩)) (.call (.ref f) ⟨.ref (s.heap.objs.size + 1) :: vs,kw⟩) (PySem.W.InitBack (s.heap.objs.size + 1) R)
   {s with heap:=(s.heap.push PySem.W.emptyDict).push (PySem.W.instObj C s.heap.objs.size)}):
  codeAny (model prog w) A (.call (.ref C) ⟨vs,kw⟩) R s:=by
 obtain⟨b,g,d,t,os⟩:=s;exact PySem.W.make_core (PySem.W.makes_of X hm) (PySem.W.looks_findIn X hi) (λself=>PySem.W.bind_fn X self a) (.inl rfl) h
end
noncomputable def yN(f:Str)(v:V):List (Str×V)->List (Str×V)
 | []=> [(f,v)]
 | (g,x) :: r=>if g=f then(g,v) :: r else(g,x) :: yN f v r
theorem z3B(f g:Str)(v:V):∀fs:List (Str×V),(yN f v fs).lookup g=if g=f then some v else fs.lookup g
 | []=>by
  show List.lookup g [(f,v)]=_
  by_cases h:g=f
  ·have a:(g == f)=true:=Qt.mpr h;simp only [List.lookup,a,wY h]
  ·have a:(g == f)=false:=w0h.mpr h;simp only [List.lookup,a,wM h]
 | (k,x) :: r=>by
  have b:=z3B f g v r;rw [show yN f v ((k,x) :: r)=(if k=f then(k,v) :: r else(k,x) :: yN f v r)from rfl];by_cases hk:k=f
  ·rw [wY hk];by_cases h:g=k
   ·have a:(g == k)=true:=Qt.mpr h;simp only [List.lookup,a,wY (h.trans hk)]
   ·have a:(g == k)=false:=w0h.mpr h;simp only [List.lookup,a,wM (λe:g=f=>h (e.trans hk.symm))]
  ·rw [wM hk];by_cases h:g=k
   ·have a:(g == k)=true:=Qt.mpr h;simp only [List.lookup,a,wM (λe:g=f=>hk (h.symm.trans e))]
   ·have a:(g == k)=false:=w0h.mpr h;simp only [List.lookup,a];exact b
theorem z3n(f:Str)(v:V):∀fs:List (Str×V),f∈(yN f v fs).map (·.1)/\∀g,g∈fs.map (·.1)->g∈(yN f v fs).map (·.1)
 | []=>⟨by simp [yN],λg h=>by simp at h⟩
 | (k,x) :: r=>by
  obtain⟨b,a⟩:=z3n f v r;rw [show yN f v ((k,x) :: r)=(if k=f then(k,v) :: r else(k,x) :: yN f v r)from rfl];by_cases hk:k=f
  ·rw [wY hk];subst hk;exact⟨by simp,λg h=>by simpa using h⟩
  ·rw [wM hk];refine⟨?_,λg h=> ?_⟩
   ·rw [qC];exact wX _ b
   ·rw [qC]at h ⊢;rcases wG.mp h with e | e
    ·exact wG.mpr (.inl e)
    ·exact wX _ (a g e)
theorem z3v(f:Str)(v:V):∀fs:List (Str×V),(yN f v fs).length<=fs.length + 1
 | []=>by simp [yN]
 | (k,x) :: r=>by
  have a:=z3v f v r;rw [show yN f v ((k,x) :: r)=(if k=f then(k,v) :: r else(k,x) :: yN f v r)from rfl];by_cases hk:k=f
  ·rw [wY hk,wN,wN];lia
  ·rw [wM hk,wN,wN];lia
theorem z1z.some_of{v:V}{o:Option Value}(r:z1z (some v) o):∃u,o=some u/\RelV v u:=by
 cases o with
 | none=>exact(show False from r).elim
 | some u=>exact⟨u,rfl,r⟩
theorem z1z.none_of{o:Option Value}(r:z1z none o):o=none:=by
 cases o with
 | none=>rfl
 | some u=>exact(show False from r).elim
theorem z9O{v:V}(r:RelV v u):PySem.W.handedIn u=true:=by
 cases v with
 | non=>cases (show u=Value.none from r);rfl
 | bl b=>cases (show u=Value.bool b from r);rfl
 | int i=>obtain⟨t,e⟩:=(show∃t,u=Value.int i t from r);cases e;rfl
 | str x=>obtain⟨t,e⟩:=(show∃t,u=Value.str x t from r);cases e;rfl
 | byt b=>obtain⟨t,e⟩:=(show∃t,u=Value.bytes b t from r);cases e;rfl
 | flt b=>obtain⟨t,e⟩:=(show∃t,u=Value.float b t from r);cases e;rfl
 | ref a=>cases (show u=Value.ref a from r);rfl
 | ty n=>cases (show u=Value.type n from r);rfl
section
variable{fs i6:List (Str×V)}
theorem z3Z(hok:HOk P w H h)(e:H a=some (.ins C dx fs)):∃mA,ObjM h a dx C mA/\(∀f,z1z (fs.lookup f) (mA f))/\PySem.Within mA (fs.map (·.1))/\fs.length<=1000/\H dx=some (.own a):=by
 obtain⟨d,z,ne,b,mA,n,r,q⟩:=(show jt P w H h a (.ins C dx fs)from hok a _ e);exact⟨mA,⟨b,n,ne⟩,r,q,z,d⟩
end
structure Cls(K:W.Frag)(C:Addr):Prop where
 pg:PySem.W.plainGet K C Str.empty=true
 hd:PySem.W.hasDictIn K C=true
 po:PySem.W.plainOver K C=true
 sa:PySem.W.findIn K (.ref C) "__setattr__"=some (some (.builtin "object.__setattr__"))
theorem Cls.get{K:W.Frag}{C:Addr}(c:Cls K C)(f:Str):PySem.W.plainGet K C f=true:=c.pg
def NoAttr(K:W.Frag)(C:Addr)(f:Str):Prop:=PySem.W.findIn K (.ref C) f=some none
theorem NoAttr.taker{f:Str}(n:NoAttr K C f):PySem.W.takerIn K C f=some none:=by
 unfold PySem.W.takerIn;rw [show PySem.W.findIn K (.ref C) f=some none from n]
 rfl
structure Con(K:W.Frag)(C:Addr)(f:Str)(v:V)(u:Value):Prop where
 at_:PySem.W.findIn K (.ref C) f=some (some u)
 rel:RelV v u
 get:PySem.W.specialIn K u "__get__"=some none
 cp:PySem.W.copiedNames.contains f=false
structure Meth(K:W.Frag)(C:Addr)(m:Str)(f:Addr):Prop where
 at_:PySem.W.findIn K (.ref C) m=some (some (.ref f))
 fn:PySem.W.isFn K (.ref f)=true
 kp:PySem.W.keepIn K (.ref f)=true
section
variable{σ:St}{fs:List (Str×V)}{f:Str}{v:V}
theorem z7N{b:Bool}(I:Inv X pins σ H s)(e:H a=some (.ins C dx fs))(c:Cls X.K C)(n:NoAttr X.K C f)(l:fs.lookup f=some v)
  (h:∀u s',Inv X pins σ H s'->RelV v u->Q u s'):wpAny (model X.prog X.w) A (getAttr (.ref a) f b) Q E s:=by
 obtain⟨mA,O,r,_,_,_⟩:=z3Z I.hok e;obtain⟨u,i,d⟩:=z1z.some_of (v:=v) (o:=mA f) (by rw [<-l];exact r f);exact get_map I.kIn O (c.get f) c.hd n i (z9O d) (h u _ (I.tok _) d)
theorem z4I{m:Str}{g:Addr}{pl:Sem Bool}{Q:Value×List Value->Shared->Prop}(I:Inv X pins σ H s)(e:H a=some (.ins C dx fs))(c:Cls X.K C)(k:Meth X.K C m g)(l:fs.lookup m=none)
  (h:Q (.ref g,[.ref a]) s):wpAny (model X.prog X.w) A (getMethod (.ref a) m pl) Q E s:=by
 obtain⟨mA,O,r,_,_,_⟩:=z3Z I.hok e;have hn:mA m=none:=z1z.none_of (by rw [<-l];exact r m);exact zc2 I.kIn O (c.get m) k.at_ k.fn hn h
theorem z7O{Q:Unit->Shared->Prop}(I:Inv X pins σ H s)(e:H a=some (.ins C dx fs))(c:Cls X.K C)(n:NoAttr X.K C f)(hl:fs.length < 1000)(t:RelV y u)
  (h:∀s',Inv X pins σ (upd H a (.ins C dx (yN f y fs))) s'->Q () s'):wpAny (model X.prog X.w) A (setAttr (.ref a) f u) Q E s:=by
 obtain⟨mA,O,r,wi,_,i⟩:=z3Z I.hok e;have hz:(fs.map (·.1)).length<=sizeLine:=by rw [w9,Qi];lia
 refine zcM I.kIn O c.sa c.po n.taker c.hd wi hz λh' d l=>h _ ?_
 have hd:∃o,h'.get? dx=some o:=let ⟨o,_,_,e',_⟩:=d.ns;⟨o,e'⟩
 refine I.write (x:=a) (e:=dx) (by rw [e];exact w0m) (.inr i) (λb q j z=>(l.2 b j).trans z) hd ?_;refine⟨by rw [zl O.ne];exact i,?_,O.ne,d.obj,_,d.ns,λg=> ?_,λg p=> ?_⟩
 ·have:=z3v f y fs;lia
 ·show z1z ((yN f y fs).lookup g) (if g=f then some u else mA g)
  rw [z3B];by_cases q:g=f
  ·rw [wY q,wY q];exact t
  ·rw [wM q,wM q];exact r g
 ·by_cases q:g=f
  ·rw [q];exact(z3n f y fs).1
  ·refine(z3n f y fs).2 g (wi g λz=>p ?_)
   show(if g=f then some u else mA g)=none
   rw [wM q];exact z
theorem Inv.made(I:Inv X pins σ H s):Inv X pins σ (upd (upd H s.heap.objs.size (.own (s.heap.objs.size + 1))) (s.heap.objs.size + 1) (.ins C s.heap.objs.size []))
  {s with heap:=(s.heap.push PySem.W.emptyDict).push (PySem.W.instObj C s.heap.objs.size)}:=by
 have c:(s.heap.push PySem.W.emptyDict).get? s.heap.objs.size=some PySem.W.emptyDict:=q5 s.heap rfl;have i:((s.heap.push PySem.W.emptyDict).push (PySem.W.instObj C s.heap.objs.size)).get? (s.heap.objs.size + 1)=some (PySem.W.instObj C s.heap.objs.size):=by
  have:=q5 (s.heap.push PySem.W.emptyDict) (o:=PySem.W.instObj C s.heap.objs.size) rfl
  rwa [Qc]at this
 have d:(s.heap.push PySem.W.emptyDict).Ns s.heap.objs.size (λ_=>none):=⟨PySem.W.emptyDict,#[],_,c,rfl,(λe he=>absurd he (by simp)),λ_=>rfl⟩;have h:=I.laid (a:=s.heap.objs.size) (o:= .own (s.heap.objs.size + 1)) (h':=s.heap.push PySem.W.emptyDict) (t':=s.toks) (λb u q=>wo _ q) (ww _) ⟨_,c⟩;refine h.laid (a:=s.heap.objs.size + 1) (o:= .ins C s.heap.objs.size []) (t':=s.toks) (λb u q=>wo _ q) (Nat.le_of_eq (Qc _ _)) ?_;have ne:s.heap.objs.size≠s.heap.objs.size + 1:=wW (w0n _);refine⟨by rw [zl ne,zj],qQ _,ne,i,λ_=>none,(Heap.Ns1.of_empty d).at λo q=>wo _ q,λ_=>w0m,λy f=>absurd rfl f⟩
theorem zcC{env:Env}(a:attributeBase e f env (eval e env)=eval e env)
  (h:wpAny (model prog w) A (eval e env) (λo b=>wpAny (model prog w) A (getAttr o f true) Q E b) E s):wpAny (model prog w) A (eval (.Attribute e f pos) env) Q E s:=
 Attribute_any_ h (by rw [arm_eval_Attribute,a])
end
def zeY(K:W.Frag)(ta:TE)(f:Str):TE:=λσ H Q=>ta σ H λx H1=>∃a C dx fs v,x= .ref a/\H1 a=some (.ins C dx fs)/\Cls K C/\NoAttr K C f/\fs.lookup f=some v/\Q v H1
def ze3(K:W.Frag)(ta tv:TE)(f:Str):TS:=λD σ H=>tv σ H λy H1=>ta σ H1 λx H2=>∃a C dx fs,x= .ref a/\H2 a=some (.ins C dx fs)/\Cls K C/\NoAttr K C f/\fs.length < 1000/\
 D.nx σ (upd H2 a (.ins C dx (yN f y fs)))
section
variable{o value:Expr}{f:Str}{pos' nS:Pos}{tv:TE}
theorem zz(he:PE X e ta)(i:attributeBase e f X.env (eval e X.env)=eval e X.env):PE X (.Attribute e f pos) (zeY X.K ta f):=by
 intro pins s σ H Q I h;refine zcC i (thn (he pins s σ H _ I h) ?_);rintro u s1 ⟨x,H1,j,o,a,C,dx,fs,v,ex,b,c,n,l,q⟩;subst ex;obtain rfl:u=Value.ref a:=o;exact z7N j b c n l λr s2 p d=>⟨v,H1,p,d,q⟩
theorem z0w(ha:PE X o ta)(t:PE X value tv)(hs:swapsWith value (some (.Attribute o f pos')) pos.line X.env=pure false):PS X (.Assign [.Attribute o f pos'] value pos) (ze3 X.K ta tv f):=by
 intro pins s σ H D I h;refine plainObj_wpAny_Assign_Attribute (thn (t pins s σ H _ I h) ?_) hs;rintro u s1 ⟨y,H1,j,p,q⟩;refine thn (ha pins s1 σ H1 _ j q) ?_;rintro e s2 ⟨x,H2,w,r,a,C,dx,fs,ex,d,c,n,l,i⟩;subst ex;obtain rfl:e=Value.ref a:=r;exact z7O w d c n l p λz b=>⟨σ,_,b,i⟩
end
section
variable{σ:St}{c:Value}{b:Bool}
inductive TyOf (K:W.Frag) (H:Hp):V->Value->Prop where
 | non:TyOf K H .non (.type "NoneType")
 | bl (x:Bool):TyOf K H (.bl x) (.type "bool")
 | int (i:Int):TyOf K H (.int i) (.type "int")
 | str (x:Str):TyOf K H (.str x) (.type "str")
 | flt (x:UInt64):TyOf K H (.flt x) (.type "float")
 | lst {a:Addr} {xs:List V} (e:H a=some (.lst xs)):TyOf K H (.ref a) (.type "list")
 | frz {a:Addr} {o:Obj} {xs:List V} (e:H a=some (.frz o (.lst xs))):TyOf K H (.ref a) (.type "list")
 | tup {a:Addr} {xs:List V} (e:H a=some (.tup xs)):TyOf K H (.ref a) (.type "tuple")
 | dK {a:Addr} {kvs:List (Key×V)} (e:H a=some (.dK kvs)):TyOf K H (.ref a) (.type "dict")
 | dT {a:Addr} {kvs:List (List Key×V)} (e:H a=some (.dT kvs)):TyOf K H (.ref a) (.type "dict")
 | ins {a C dx:Addr} {fs:List (Str×V)} (e:H a=some (.ins C dx fs)) (cl:Cls K C) (ha:PySem.W.findIn K (.ref C) "__class__"=some (some (.builtin "object.__class__")))
   (hn:PySem.W.specialIn K (.builtin "object.__class__") "__get__"=some (some (.builtin "getset_descriptor.__get__"))) (su:PySem.W.takesIn K (.builtin "object.__class__")=some true)
   (hm:PySem.W.mroIn K C (.type "object")=some true):TyOf K H (.ref a) (.ref C)
theorem z9E{x:V}{t:Value}(I:Inv X pins σ H s)(f:RelV x u)(ty:TyOf X.K H x t)(e:PySem.W.kitOne X.K t c=some b)(h:∀tk,Q (.bool b) {s with toks:=tk}):
  wpAny (model X.prog X.w) A (call (.builtin "isinstance") [u,c]) Q E s:=by
 cases ty with
 | non=>cases (show u=Value.none from f);exact QD PySem.W.kitx_none I.kIn w0m e (λz=>nomatch z) h
 | bl y=>cases (show u=Value.bool y from f);exact QD PySem.W.kitx_bool I.kIn w0m e (λz=>nomatch z) h
 | int i=>obtain⟨t,q⟩:=(show∃t,u=Value.int i t from f);cases q;exact QD PySem.W.kitx_int I.kIn w0m e (λz=>nomatch z) h
 | str y=>obtain⟨t,q⟩:=(show∃t,u=Value.str y t from f);cases q;exact QD PySem.W.kitx_str I.kIn w0m e (λz=>nomatch z) h
 | flt y=>obtain⟨t,q⟩:=(show∃t,u=Value.float y t from f);cases q;exact QD PySem.W.kitx_float I.kIn w0m e (λz=>nomatch z) h
 | @lst a xs d=>
  cases (show u=Value.ref a from f);obtain⟨_,_,n,_,h1⟩:=(show jt X.prog X.w H s.heap a (.lst xs)from I.hok a _ d);exact QD PySem.W.kitx_list I.kIn ⟨_,h1,rfl⟩ e (λz=>nomatch z) h
 | @frz a j xs d=>
  cases (show u=Value.ref a from f);obtain⟨_,_,_,n,_,h1⟩:=(show jt X.prog X.w H s.heap a (.frz j (.lst xs))from I.hok a _ d);exact QD PySem.W.kitx_list I.kIn ⟨_,h1,rfl⟩ e (λz=>nomatch z) h
 | @tup a xs d=>
  cases (show u=Value.ref a from f);obtain⟨_,_,_,p⟩:=(show jt X.prog X.w H s.heap a (.tup xs)from I.hok a _ d);obtain⟨o,h1,h2,_⟩:=p;exact QD PySem.W.kitx_tuple I.kIn ⟨o,h1,h2⟩ e (λz=>nomatch z) h
 | @dK a kvs d=>
  cases (show u=Value.ref a from f);obtain⟨_,_,vs,_,p⟩:=(show jt X.prog X.w H s.heap a (.dK kvs)from I.hok a _ d);obtain⟨o,es,ep,h1,h2,_⟩:=p;exact QD PySem.W.kitx_dict I.kIn ⟨o,h1,h2.1⟩ e (λz=>nomatch z) h
 | @dT a kvs d=>
  cases (show u=Value.ref a from f);obtain⟨_,_,xs,_,o,es,ep,h1,h2,_⟩:=(show jt X.prog X.w H s.heap a (.dT kvs)from I.hok a _ d);exact QD PySem.W.kitx_dict I.kIn ⟨o,h1,h2.1⟩ e (λz=>nomatch z) h
 | @ins a C dx fs d cl ha hn su hm=>
  cases (show u=Value.ref a from f);obtain⟨mA,O,_⟩:=z3Z I.hok d;obtain⟨od,J,_⟩:=O.look;exact QD (PySem.W.kitx_own (cl.get _) cl.hd ha hn su hm) I.kIn J e (λz=>nomatch z) h
end
structure Room(k:Nat)(A:Around):Prop where
 hd:A.handled=none
 dp:A.depth + 3 * k + 5 < recursionLimit
 un:A.units + 16 * k + 200 < cLine
theorem Room.mono{j k:Nat}(r:Room k A)(h:j<=k):Room j A:=⟨r.hd,by have:=r.dp;lia,by have:=r.un;lia⟩
theorem Room.deeper{k:Nat}(r:Room (k + 1) A)(env:Env):Room k (A.deeper env):=
 ⟨r.hd,by have:=r.dp;show A.depth + 1 + 3 * k + 5 < _;lia,by have:=r.un;show A.units + 3 + 16 * k + 200 < _;lia⟩
theorem z81:(A.under (.builtin "type.__call__" ⟨.ref C :: us,kw⟩)).depth=A.depth + 1:=by
 first | rfl | simp [Around.under,Code.weight,Code.isCreation,Code.isGuard,Code.isCaller,Code.frames,Code.isFrame,guardIds]
theorem z8h:(A.under (.builtin "type.__call__" ⟨.ref C :: us,kw⟩)).units=A.units + 1:=by
 first | rfl | simp [Around.under,Code.cUnits,Code.frames,Code.isFrame]
theorem Room.make{k:Nat}(r:Room (k + 1) A)(C:Addr)(us:List Value)(kw:List (Str×Value)):Room k (A.under (.builtin "type.__call__" ⟨.ref C :: us,kw⟩)):=
 ⟨r.hd,by have:=r.dp;rw [z81];lia,by have:=r.un;rw [z8h];lia⟩
theorem Room.depth{k:Nat}(r:Room k A):A.depth < recursionLimit:=by have:=r.dp;lia
theorem Room.units{k:Nat}(r:Room k A):A.units + 64 < cLine:=by have:=r.un;lia
def zeh:TA:=λ_ H Q=>Q [] H
def z1S(ta:TE)(tr:TA):TA:=λσ H Q=>ta σ H λx H1=>tr σ H1 λxs H2=>Q (x :: xs) H2
variable{t:TA}
def ze:PA X [] zeh:=λ_ _ _ _ H Q I h=>w0e ⟨[],H,I,.nil,h⟩
theorem zN(ha:PE X e te)(hr:PA X es t)(hs:starEach (e :: es) X.env=(false,eval e X.env) :: starEach es X.env:=by rfl):PA X (e :: es) (z1S te t):=by
 intro pos pins s σ H Q I h;rw [hs]
 show wpAny _ _ (spliced ((false,eval e X.env) :: backTo pos (starEach es X.env))) _ _ s
 refine Qj (thn (ha pins s σ H _ I h) ?_);rintro u s1 ⟨x,H1,c,r1,a⟩;exact thn (hr pos pins s1 σ H1 _ c a) λus s2 ⟨xs,H2,d,r2,b⟩=>⟨x :: xs,H2,d,.cons r1 r2,b⟩
def zfw(t:TA):TE:=λσ H Q=>t σ H λxs H1=>xs.length<=sizeLine/\∀p,H1 p=none->Q (.ref p) (upd H1 p (.tup xs))
def zfD(t:TA):TE:=λσ H Q=>t σ H λxs H1=>xs.length<=sizeLine/\∀p,H1 p=none->Q (.ref p) (upd H1 p (.lst xs))
theorem zG{x1}(h:PA X es t):PE X (.Tuple es x1 pos) (zfw t):=by
 intro pins s σ H Q I hq;refine wpAny_Tuple_spliced (thn (h pos pins s σ H _ I hq) ?_);rintro us s1 ⟨xs,H1,a,r,z,q⟩;refine⟨by rw [<-r.length];exact z,?_⟩;have c:H1 s1.heap.objs.size=none:=a.hok.fresh (ww _);refine⟨.ref s1.heap.objs.size,upd H1 s1.heap.objs.size (.tup xs),a.laid (t':=s1.toks) (λb u e=>wo _ e) (ww _) ?_,rfl,q _ c⟩;exact⟨z,us,r,⟨_,q5 _ rfl,rfl,_,rfl⟩⟩
theorem zF(h:PA X es t):PE X (.List es pos) (zfD t):=by
 intro pins s σ H Q I hq;refine wpAny_List_spliced (thn (h pos pins s σ H _ I hq) ?_);rintro us s1 ⟨xs,H1,a,r,z,q⟩;refine⟨by rw [<-r.length];exact z,?_⟩;have c:H1 s1.heap.objs.size=none:=a.hok.fresh (ww _);refine⟨.ref s1.heap.objs.size,upd H1 s1.heap.objs.size (.lst xs),a.laid (t':=s1.toks) (λb u e=>wo _ e) (ww _) ?_,rfl,q _ c⟩;exact⟨z,us,0,r,q5 _ rfl⟩
abbrev Sp:=List V->Hp->VK->XK->Prop
abbrev CXT:=List Env->Hp->Shared->XK->Value->Shared->Prop
structure Env0(P:Program)(w:World)(K:W.Frag)(mg:Str->Option Value)(base:Heap)(A:Around)(outer:List Env)(s:Shared)(H:Hp):Prop where
 frames:A.frames=some outer
 mod:Mod K mg base
 bs:∀b o,base.get? b=some o->s.heap.get? b=some o/\H b=none
 bsz:base.objs.size<=s.heap.objs.size
 funs:s.heap.FunFrames base outer
 frf:∀b∈frs outer,H b=none
 hok:HOk P w H s.heap
 bare:AllBare s.gens
def CE(outer:List Env)(P:Program)(w:World)(H:Hp)(s:Shared)(Q:VK)(u:Value)(s':Shared):Prop:=
 ∃v H',s'.os=s.os/\AllBare s'.gens/\Un (frs outer) [] H H' s.heap s'.heap/\HOk P w H' s'.heap/\RelV v u/\Q v H'
def CR(CX:CXT)(outer:List Env)(P:Program)(w:World)(H:Hp)(s:Shared)(Q:VK)(E:XK)(r:Result)(s':Shared):Prop:=
 match r with
 | .ok (.ret u)=>CE outer P w H s Q u s'
 | .ok _=>False
 | .error e=>CX outer H s E e s'
structure FnOk(P:Program)(w:World)(K:W.Frag)(mg:Str->Option Value)(base:Heap)(CX:CXT)(k:Nat)(f:Addr)(fd:FuncData)(ps:List Str)(sp:Sp):Prop where
 len:∀vs H Q E,sp vs H Q E->vs.length=ps.length
 run:∀(A:Around) (outer:List Env) (s:Shared) (H:Hp) (args:Args) (us:List Value) (vs:List V) (Q:VK) (E:XK),Room k A->Env0 P w K mg base A outer s H->BindsTo s fd args (ps.zip us)->zL vs us->sp vs H Q E->
  codeAny (model P w) A (.call (.ref f) args) (CR CX outer P w H s Q E) s
variable{mg:Str->Option Value}{base:Heap}{outer:List Env}
theorem Env0.make(e:Env0 P w K mg base A outer s H)(C:Addr)(us:List Value)(kw:List (Str×Value)):
  Env0 P w K mg base (A.under (.builtin "type.__call__" ⟨.ref C :: us,kw⟩)) outer s H:=⟨by first | exact e.frames | (simpa [Around.under,Code.envs,Code.isFrame,pushEnvs]using e.frames),e.mod,e.bs,e.bsz,e.funs,e.frf,e.hok,e.bare⟩
section
variable{σ:St}
def Inv.env0(I:Inv X pins σ H s):Env0 X.prog X.w X.K X.mg X.base X.A X.stack s H:=
 ⟨I.ok.frames,I.ok.mod,I.bs,wP I.ok.bsz I.sz,I.stack,I.stkFree,I.hok,I.bare⟩
theorem Inv.after{Q:VK}(I:Inv X pins σ H s)(h:CE X.stack X.prog X.w H s Q u s'):EP X pins σ Q u s':=by
 obtain⟨v,H',os,bare,un,hok,r,q⟩:=h;obtain⟨a,g,d,t,c⟩:=s';obtain rfl:c=s.os:=os;exact⟨v,H',I.call (h':=a) (g':=g) (d':=d) (t':=t) (ch:= []) un hok bare (λb z=>absurd z (by simp)),r,q⟩
end
def zcf(sp:Sp)(bt:List V)(E:XK)(t:TA):TE:=λσ H Q=>t σ H λvs H1=>sp (vs ++ bt) H1 Q E
def z93(C:Addr)(m:Str)(sp:Sp)(bt:List V)(E:XK)(ta:TE)(t:TA):TE:=λσ H Q=>ta σ H λx H1=>∃a dx fs,x= .ref a/\H1 a=some (.ins C dx fs)/\fs.lookup m=none/\
 t σ H1 λvs H2=>sp (x :: (vs ++ bt)) H2 Q E
def zdz(C:Addr)(sp:Sp)(bt:List V)(E:XK)(t:TA):TE:=λσ H Q=>t σ H λvs H1=>∀x dx,H1 x=none->H1 dx=none->dx≠x->
 sp (.ref x :: (vs ++ bt)) (upd (upd H1 dx (.own x)) x (.ins C dx [])) (λv H2=>v= .non/\Q (.ref x) H2) E
def Binds(K:W.Frag)(fd:FuncData)(ps:List Str)(ds:List Value):Prop:=
 ∀(s:Shared) (us:List Value),K.In s.heap->(us ++ ds).length=ps.length->BindsTo s fd ⟨us,[]⟩ (ps.zip (us ++ ds))
variable{fd:FuncData}{ps:List Str}
theorem Binds.all(h:∀us:List Value,us.length=ps.length->bindArgs fd ⟨us,[]⟩=pure (ps.zip us)):Binds K fd ps []:=λs us _ hl=>by
 rw [Ql]at hl ⊢;exact .of_eq (h us hl)
def z1h(CX:CXT)(X:Cx)(E:XK):Prop:=∀(pins:List (Addr×Obj)) (σ:St) (H:Hp) (s:Shared) (e:Value) (s':Shared),Inv X pins σ H s->CX X.stack H s E e s'->X.xe e s'
variable{vs:List V}{CX:CXT}{sp:Sp}
section
variable{k:Nat}{f:Addr}{bt:List V}{ds:List Value}{E:XK}{m:Str}{apos:Pos}{o:Expr}
theorem z8f{Q:VK}(F:FnOk X.prog X.w X.K X.mg X.base CX k f fd ps sp)(hr:Room k X.A)(a:Binds X.K fd ps ds)(hd:zL bt ds)(b:z1h CX X E)
  (I:Inv X pins σ H s) (r:zL vs us) (h:sp (vs ++ bt) H Q E):wpAny (model X.prog X.w) X.A (call (.ref f) us) (EP X pins σ Q) X.xe s:=by
 have r2:zL (vs ++ bt) (us ++ ds):=r.append hd;have hl:(us ++ ds).length=ps.length:=by rw [<-r2.length];exact F.len _ _ _ _ h
 refine w1G (w0r (F.run X.A X.stack s H ⟨us,[]⟩ (us ++ ds) (vs ++ bt) Q E hr I.env0 (a s us I.kIn hl) r2 h) λr s' hq=> ?_);cases r with
 | error e=>exact b pins σ H s e s' I hq
 | ok c=>
  cases c with
  | ret u=>exact I.after hq
  | next=>exact False.elim hq
  | brk=>exact False.elim hq
  | cont=>exact False.elim hq
theorem zcx(F:FnOk X.prog X.w X.K X.mg X.base CX k f fd ps sp)(hr:Room k X.A)(j:Gl X x)(hm:X.mg x=some (.ref f))(b:PySem.W.keepIn X.K (.ref f)=true)(d:Binds X.K fd ps ds)(hd:zL bt ds)(c:z1h CX X E)
  (ha:PA X (e :: es) t) (i:(x == ("__debug__":Str))=false:=by decide) (he:starEach (e :: es) X.env=(false,eval e X.env) :: starEach es X.env:=by rfl) (l:(backTo pos (starEach es X.env)).any (·.1)=false:=by rfl):
  PE X (.Call (.Name x p) (e :: es) [] pos) (zcf sp bt E t):=by
 intro pins s σ H Q I h;refine Qk (z2J I j hm ?_ i);refine w0X (h₀:=X.base) I.ok.mod.kin b (thn (ha pos pins s σ H _ I h) ?_) he l;rintro us s1 ⟨vs,H1,a,r,q⟩;refine⟨a.kIn,?_⟩;exact z8f F hr d hd c a r q
theorem zcN{pl:Sem Bool}(he:PE X o ta)(c:Cls X.K C)(hm:Meth X.K C m f)(F:FnOk X.prog X.w X.K X.mg X.base CX k f fd ps sp)(hr:Room k X.A)(p:Binds X.K fd ps ds)(hd:zL bt ds)(n:z1h CX X E)(ha:PA X (e :: es) t)
  (y:starEach (e :: es) X.env=(false,eval e X.env) :: starEach es X.env:=by rfl) (D:(backTo pos (starEach es X.env)).any (·.1)=false:=by rfl)
  (ht:eval (.Call (.Attribute o m apos) (e :: es) [] pos) X.env=(do
   let b<-eval o X.env
   standAt apos.atName
   let (f,first)<-holding [b] (getMethod b m pl)
   callWith pos f first (backTo pos (starEach (e :: es) X.env)) (backToKw pos (keywordEach [] X.env))):=by rfl):
  PE X (.Call (.Attribute o m apos) (e :: es) [] pos) (z93 C m sp bt E ta t):=by
 intro pins s σ H Q I h;refine PySem.W.methodCall_KW (pl:=pl) (thn (he pins s σ H _ I h) ?_) ht;rintro u s1 ⟨x,H1,d,B,a,dx,fs,ex,j,l,q⟩;subst ex;obtain rfl:u=Value.ref a:=B;refine z4I d j c hm l ?_;refine w0X (first:= [.ref a]) (h₀:=X.base) I.ok.mod.kin hm.kp (thn (ha pos pins s1 σ H1 _ d q) ?_) y D;rintro us s2 ⟨vs,H2,i,r,z⟩;refine⟨i.kIn,?_⟩;exact z8f (us:= .ref a :: us) (vs:= .ref a :: vs) F hr p hd n i (.cons rfl r) z
theorem zaL{pl:Sem Bool}(he:PE X o ta)(c:Cls X.K C)(hm:Meth X.K C m f)(F:FnOk X.prog X.w X.K X.mg X.base CX k f fd ps sp)(hr:Room k X.A)(j:Binds X.K fd ps ds)(hd:zL bt ds)(i:z1h CX X E)
  (ht:eval (.Call (.Attribute o m apos) [] [] pos) X.env=(do
   let d<-eval o X.env
   standAt apos.atName
   let (f,first)<-holding [d] (getMethod d m pl)
   callWith pos f first (backTo pos (starEach [] X.env)) (backToKw pos (keywordEach [] X.env))):=by rfl):
  PE X (.Call (.Attribute o m apos) [] [] pos) (z93 C m sp bt E ta zeh):=by
 intro pins s σ H Q I h;refine PySem.W.methodCall_KW (pl:=pl) (thn (he pins s σ H _ I h) ?_) ht;rintro u s1 ⟨x,H1,b,n,a,dx,fs,ex,e,l,q⟩;subst ex;obtain rfl:u=Value.ref a:=n;refine z4I b e c hm l ?_;exact PySem.W.callWith_K0 (first:= [.ref a]) b.kIn hm.kp (z8f (us:= [.ref a]) (vs:= [.ref a]) F hr j hd i b (.cons rfl .nil) q)
structure Mk(K:W.Frag)(C f:Addr):Prop where
 makes:PySem.W.makesIn K C=true
 init:PySem.W.findIn K (.ref C) "__init__"=some (some (.ref f))
 fn:PySem.W.isFn K (.ref f)=true
 kp:PySem.W.keepIn K (.ref C)=true
theorem zc4{Q:VK}(M:Mk X.K C f)(F:FnOk X.prog X.w X.K X.mg X.base CX k f fd ps sp)(hr:Room (k + 1) X.A)(j:Binds X.K fd ps ds)(hd:zL bt ds)
  (d:z1h CX X E) (I:Inv X pins σ H s) (r:zL vs us)
  (h:∀x dx,H x=none->H dx=none->dx≠x->sp (.ref x :: (vs ++ bt)) (upd (upd H dx (.own x)) x (.ins C dx [])) (λv H2=>v= .non/\Q (.ref x) H2) E):
  wpAny (model X.prog X.w) X.A (call (.ref C) us) (EP X pins σ Q) X.xe s:=by
 have hq:=h (s.heap.objs.size + 1) s.heap.objs.size (I.hok.fresh (Nat.le_succ _)) (I.hok.fresh (ww _)) (wW (w0n _));have b:=Inv.made (C:=C) I;have r2:zL (V.ref (s.heap.objs.size + 1) :: (vs ++ bt)) (Value.ref (s.heap.objs.size + 1) :: (us ++ ds)):= .cons rfl (r.append hd);have hl:(Value.ref (s.heap.objs.size + 1) :: us ++ ds).length=ps.length:=by
  have e:=r2.length;rw [F.len _ _ _ _ hq]at e;exact e.symm
 refine w1G (zci (f:=f) I.kIn M.makes M.init (Qt.mp M.fn) (w0r (F.run _ X.stack _ _ ⟨Value.ref (s.heap.objs.size + 1) :: us,[]⟩ (Value.ref (s.heap.objs.size + 1) :: (us ++ ds)) _ _ E (hr.make C us [])
  (b.env0.make C us []) (j _ (Value.ref (s.heap.objs.size + 1) :: us) b.kIn hl) r2 hq) λr s' a=> ?_))
 cases r with
 | error e=>exact d pins σ _ _ e s' b a
 | ok n=>
  cases n with
  | ret u=>
   obtain⟨v,H',c,i,ev,l⟩:=b.after a;subst ev;exact⟨i,⟨V.ref (s.heap.objs.size + 1),H',c,rfl,l⟩⟩
  | next=>exact False.elim a
  | brk=>exact False.elim a
  | cont=>exact False.elim a
theorem zdv(M:Mk X.K C f)(F:FnOk X.prog X.w X.K X.mg X.base CX k f fd ps sp)(hr:Room (k + 1) X.A)(i:Gl X x)(hm:X.mg x=some (.ref C))(c:Binds X.K fd ps ds)(hd:zL bt ds)(b:z1h CX X E)
  (ha:PA X (e :: es) t) (d:(x == ("__debug__":Str))=false:=by decide) (he:starEach (e :: es) X.env=(false,eval e X.env) :: starEach es X.env:=by rfl) (j:(backTo pos (starEach es X.env)).any (·.1)=false:=by rfl):
  PE X (.Call (.Name x p) (e :: es) [] pos) (zdz C sp bt E t):=by
 intro pins s σ H Q I h;refine Qk (z2J I i hm ?_ d);refine w0X (h₀:=X.base) I.ok.mod.kin M.kp (thn (ha pos pins s σ H _ I h) ?_) he j;rintro us s1 ⟨vs,H1,a,r,q⟩;refine⟨a.kIn,?_⟩;exact zc4 M F hr c hd b a r q
end
section
variable{k:Nat}{f:Addr}{ks:List Str}{E:XK}{m:Str}{apos vq:Pos}{o:Expr}{DA:List Keyword}{tk:TA}{nm:Option Str}
structure KBinds(K:W.Frag)(fd:FuncData)(ps ks:List Str)(g:List Value->List Value->List Value)(gV:List V->List V->List V):Prop where
 to:∀(s:Shared) (us ws:List Value),K.In s.heap->(g us ws).length=ps.length->BindsTo s fd ⟨us,ks.zip ws⟩ (ps.zip (g us ws))
 rel:∀{vs:List V} {us:List Value} {zs:List V} {ws:List Value},zL vs us->zL zs ws->zL (gV vs zs) (g us ws)
variable{g:List Value->List Value->List Value}{gV:List V->List V->List V}
end
structure FnScope(N P:List Str)(sc:Scope):Prop where
 kind:sc.kind= .function
 co:sc.isCoroutine=false
 gen:sc.isGenerator=false
 nd:N.Nodup
 pre:N.take P.length=P
 par:∀x∈P,sc.names.lookup x=some .local\/sc.names.lookup x=some .cell
 nofree:∀y∈sc.names,y.2≠ .free
theorem z5O{kindOf:Str->Option NameKind}{x:Str}:∀{binds:List (Str×Value)} {m:Str->Option Value},(∀v,(x,v)∉binds)->bindL kindOf binds m x=m x
 | [],_,_=>rfl
 | (n,v) :: r,m,h=>by
  unfold bindL;rw [z5O λw a=>h w (wX _ a)];split
  ·have:x≠n:=by rintro rfl;exact h v qy
   simp [this]
  ·rfl
theorem z5n{kindOf:Str->Option NameKind}{x:Str}:∀{binds:List (Str×Value)} {m:Str->Option Value},(∀v,(x,v)∉binds)->bindC kindOf binds m x=m x
 | [],_,_=>rfl
 | (n,v) :: r,m,h=>by
  unfold bindC;rw [z5n λw a=>h w (wX _ a)];split
  ·rfl
  ·have:x≠n:=by rintro rfl;exact h v qy
   simp [this]
theorem z5N{kindOf:Str->Option NameKind}{x:Str}{v:Value}:∀{P:List Str} {vs:List Value} {i:Nat} {m:Str->Option Value},P.Nodup->P[i]? =some x->vs[i]? =some v->kindOf x=some .local->
  bindL kindOf (P.zip vs) m x=some v
 | [],_,_,_,_,h,_,_=>by simp at h
 | _ :: _,[],_,_,_,_,h,_=>by simp at h
 | p :: P,w :: vs,0,m,nd,h1,h2,a=>by
  simp at h1 h2;subst h1;subst h2
  show bindL kindOf ((p,w) :: P.zip vs) m p=_
  unfold bindL;rw [z5O λv b=>(w00.mp nd).1 (List.of_mem_zip b).1,wY a];simp
 | p :: P,w :: vs,i + 1,m,nd,h1,h2,a=>by
  show bindL kindOf ((p,w) :: P.zip vs) m x=_
  unfold bindL;exact z5N (i:=i) (w00.mp nd).2 (by simpa using h1) (by simpa using h2) a
theorem z5u{kindOf:Str->Option NameKind}{x:Str}{v:Value}:∀{P:List Str} {vs:List Value} {i:Nat} {m:Str->Option Value},P.Nodup->P[i]? =some x->vs[i]? =some v->kindOf x≠some .local->
  bindC kindOf (P.zip vs) m x=some v
 | [],_,_,_,_,h,_,_=>by simp at h
 | _ :: _,[],_,_,_,_,h,_=>by simp at h
 | p :: P,w :: vs,0,m,nd,h1,h2,a=>by
  simp at h1 h2;subst h1;subst h2
  show bindC kindOf ((p,w) :: P.zip vs) m p=_
  unfold bindC;rw [z5n λv b=>(w00.mp nd).1 (List.of_mem_zip b).1,wM a];simp
 | p :: P,w :: vs,i + 1,m,nd,h1,h2,a=>by
  show bindC kindOf ((p,w) :: P.zip vs) m x=_
  unfold bindC;exact z5u (i:=i) (w00.mp nd).2 (by simpa using h1) (by simpa using h2) a
noncomputable def start(N:List Str)(vs:List V):St:=vs.map some ++ List.replicate (N.length - vs.length) none
noncomputable def z36(CX:CXT)(P:Program)(w:World)(K:W.Frag)(mg:Str->Option Value)(base:Heap)(N:List Str)(qual:Str)(scope:Scope)(f:Addr)(cd:Value)(A:Around)(outer:List Env)(s:Shared)(H:Hp)(E:XK):Cx where
 prog:=P
 w:=w
 K:=K
 mg:=mg
 base:=base
 A:=A.deeper (envOfC qual scope s.heap.objs.size f cd)
 N:=N
 s₀:=s
 H₀:=H
 env:=envOfC qual scope s.heap.objs.size f cd
 outer:=outer
 stack:=envOfC qual scope s.heap.objs.size f cd :: outer
 ex:= []
 calm:=true
 fn:=λ_=>true
 pn:= []
 xe:=λe s'=>wpAny (model P w) (A.deeper (envOfC qual scope s.heap.objs.size f cd)) (leaving (envOfC qual scope s.heap.objs.size f cd) e) (λ_ a=>CX outer H s E e a) (λb a=>CX outer H s E b a) s'
theorem z71{sc:Scope}(h:sc.names.lookup x=some .cell):∃c,(cellsFrom n sc.names []).lookup x=some c:=by
 have q:=PySem.W.cellsFrom_some sc.names n [] (.inl h);exact Option.isSome_iff_exists.mp q
variable{scope:Scope}
theorem z5r{qual:Str}{f:Addr}{cd:Value}{s1:Shared}{E:XK}
  (S:FnScope N ps scope) (hd:A.handled=none) (d:Env0 P w K mg base A outer s H) (hl:vs.length=ps.length) (r:zL vs us)
  (x:InCallC s s.heap.objs.size (bindL (envOfC qual scope s.heap.objs.size f cd).kindOf (ps.zip us) λ_=>none) (cellsFrom (s.heap.objs.size + 1) scope.names []) (bindC (envOfC qual scope s.heap.objs.size f cd).kindOf (ps.zip us) λ_=>none) s1):
  Inv (z36 CX P w K mg base N qual scope f cd A outer s H E) [] (start N vs) H s1:=by
 have D:ps.length<=N.length:=by have:=Q6 List.length S.pre;rw [wK]at this;lia
 obtain⟨h1,tk,rfl,o⟩:=x.done;have j:∀b:Addr,b∉(z36 CX P w K mg base N qual scope f cd A outer s H E).ex:=λb z=>absurd (show b∈([]:List Addr)from z) (by simp)
 refine⟨⟨d.mod,S.kind,rfl,rfl,ww _,λy z c h1 h2=> ?_,λy hy=> ?_,λy c _ h=> ?_,λ_=>hd,Around.frames_deeper d.frames,.inr ⟨rfl,rfl⟩,λb z=>absurd z (j b),d.bs,d.bsz,λb _ _=>j b,λb z=>absurd z (j b),d.funs,d.frf⟩,
  rfl,d.bare,Un.kept o,⟨_,x.toInCall.ns,λi y v h1 h2 C=> ?_⟩,λy c h=>⟨_,x.cell y c h⟩,d.hok.fresh (ww _),λy c h=> ?_,λp hp=>absurd (show p∈([]:List (Addr×Obj))from hp) (by simp),d.hok.kept o,?_⟩
 ·exact name_of_addr x.apart (qT h1) (qT h2)
 ·have hy:scope.names.lookup y=some .cell\/scope.names.lookup y=some .free:=hy;rcases hy with hy | hy
  ·exact z71 hy
  ·exact absurd rfl (S.nofree _ (qT hy))
 ·exact w1o (x.above y c (qT h))
 ·have hi:i < vs.length:=by
   unfold start at h2;by_cases hi:i < vs.length
   ·exact hi
   ·rw [Qw (by simpa using hi)]at h2;rw [List.getElem?_replicate]at h2;split at h2 <;> cases h2
  have ha:vs[i]? =some v:=by
   unfold start at h2;rw [QV (by simpa using hi),wF]at h2;cases e:vs[i]? with
   | none=>rw [e]at h2;cases h2
   | some a=>rw [e]at h2;cases h2;rfl
  obtain⟨u,t,B⟩:=r.get ha;have hp:ps[i]? =some y:=by
   rw [<-S.pre,List.getElem?_take_of_lt (by lia)];exact h1
  have l:ps.Nodup:=by rw [<-S.pre];exact S.nd.sublist (List.take_sublist _ _)
  refine⟨u,B,?_⟩;rcases S.par y (qL hp)with k | k
  ·exact .inl ⟨k,z5N l hp t k⟩
  ·obtain⟨c,e⟩:=z71 (n:=s.heap.objs.size + 1) k;refine .inr ⟨.inl k,c,e,?_⟩;have q:=x.cell y c e;rw [z5u l hp t (by show scope.names.lookup y≠_;rw [k];decide)]at q;exact q
 ·exact d.hok.fresh (w1o (x.above y c (qT h)))
 ·unfold start
  show _=N.length
  rw [wg,w9,w0s]
  lia
theorem zdC{k:Nat}{f:Addr}{name qual:Str}{params:Arguments}{i kV aS pm ac ct oc:Value}{an od:Option Addr}
  {cC:Array (Option Value)}   (C:K.lookup f=some ⟨oc,od,.func (PySem.W.fnOf name qual params body scope i kV aS pm an ac ct),cC⟩) (j:PySem.W.codeIn K ac qual=true) (S:FnScope N ps scope)
  (len:∀vs H Q E,sp vs H Q E->vs.length=ps.length)
  (z:∀(A:Around) (outer:List Env) (s:Shared) (H:Hp) (vs:List V) (Q:VK) (E:XK),Room k (A.deeper (envOfC qual scope s.heap.objs.size f ac))->sp vs H Q E->
   ∃t,PSs (z36 CX P w K mg base N qual scope f ac A outer s H E) body t/\t {nx:=λ_ H'=>Q .non H',rt:=Q} (start N vs) H):
  FnOk P w K mg base CX (k + 1) f (PySem.W.fnOf name qual params body scope i kV aS pm an ac ct) ps sp:=by
 refine⟨len,λA outer s H args us vs Q E hr a p r d=> ?_⟩;have hl:=len _ _ _ _ d;have h:K.In s.heap:=a.mod.kin.keeps λb o e=>(a.bs b o e).1
 have F:s.heap.NoLimit:=a.mod.nolimit.keeps λb o e=>(a.bs b o e).1
 have B:∀y∈ps.zip us,scope.names.lookup y.1=some .local\/(scope.names.lookup y.1=some .cell/\((cellsFrom (s.heap.objs.size + 1) scope.names []).lookup y.1).isSome=true):=λ⟨n,v⟩ l=>by
  rcases S.par n (List.of_mem_zip l).1 with q | q
  ·exact .inl q
  ·exact .inr ⟨q,PySem.W.cellsFrom_some _ _ _ (.inl q)⟩
 refine codeAny_call_function hr.depth (h _ _ C) rfl S.co S.gen rfl (PySem.W.codeRec_of h j) (p _ _ _ _ ?_);refine wpAny_newFunctionEnv_cells S.kind B λenv he s1 x=> ?_
 subst he;refine⟨F.keeps x.toInCall.keep,codeAny_func ?_⟩;obtain⟨t,ht,hq⟩:=z A outer s H vs Q E (hr.deeper _) d;have I:Inv (z36 CX P w K mg base N qual scope f ac A outer s H E) [] (start N vs) H s1:=z5r S hr.hd a hl r x;refine qY (ht [] s1 (start N vs) H _ I hq) (λD s' hs=> ?_) λe s' hs=>hs
 have fin:∀{σ':St} {H':Hp} {v:V} {u:Value},Inv (z36 CX P w K mg base N qual scope f ac A outer s H E) [] σ' H' s'->RelV v u->Q v H'->CE outer P w H s Q u s':=
  λ{σ' H' v u} J c q=>⟨v,H',J.os,J.bare,J.base,J.hok,c,q⟩
 cases D with
 | ret u=>
  obtain⟨v,σ',H',J,c,q⟩:=hs;exact fin J c q
 | next=>
  obtain⟨σ',H',J,q⟩:=hs;exact fin (v:=V.non) (u:=Value.none) J rfl q
 | brk=>
  obtain⟨_,_,_,q⟩:=hs;exact False.elim q
 | cont=>
  obtain⟨_,_,_,q⟩:=hs;exact False.elim q
section
variable{id T:String}{r:List V->Hp->VK->Prop}
def tCB(r:List V->Hp->VK->Prop)(t:TA):TE:=λσ H Q=>t σ H λvs H1=>r vs H1 Q
theorem zP(hc:kj X (.builtin id) r)(f:Gl X x)(hm:X.mg x=none)(a:bootBuiltins x=some (.builtin id))(ha:PA X (e :: es) t)(hn:x≠"__name__":=by decide)(c:(x == ("__debug__":Str))=false:=by decide)
  (he:starEach (e :: es) X.env=(false,eval e X.env) :: starEach es X.env:=by rfl) (i:(backTo pos (starEach es X.env)).any (·.1)=false:=by rfl):PE X (.Call (.Name x p) (e :: es) [] pos) (tCB r t):=by
 intro pins s σ H Q I h;refine Qk (z0Z I f hm a ?_ hn c);exact PyProof.Rows.callWith_builtin1 (thn (ha pos pins s σ H _ I h) λus s1 ⟨vs,H1,d,r1,b⟩=>hc pins s1 σ H1 vs us Q d r1 b) he i
theorem jk(hc:kj X (.type T) r)(f:Gl X x)(hm:X.mg x=none)(a:bootBuiltins x=some (.type T))(ha:PA X (e :: es) t)(hn:x≠"__name__":=by decide)(c:(x == ("__debug__":Str))=false:=by decide)
  (he:starEach (e :: es) X.env=(false,eval e X.env) :: starEach es X.env:=by rfl) (i:(backTo pos (starEach es X.env)).any (·.1)=false:=by rfl):PE X (.Call (.Name x p) (e :: es) [] pos) (tCB r t):=by
 intro pins s σ H Q I h;refine Qk (z0Z I f hm a ?_ hn c);exact Q9 (thn (ha pos pins s σ H _ I h) λus s1 ⟨vs,H1,d,r1,b⟩=>hc pins s1 σ H1 vs us Q d r1 b) he i
end
end L2
namespace HT
open PySem PyProof.Rows
section
open PySem.SeqAt
open PySem.AutoSeq1 (wpAny_loadPart')
open PySem.MeetsSeq PySem.MeetsSeq2 PySem.MeetsSeq3
end
variable{Q:Value->Shared->Prop}
section
variable{prog:Program}{w:World}{A:Around}{E:Value->Shared->Prop}{s:Shared}
theorem cat_tup{t b:Addr}{vs ws:List Value}(ht:IsTup s.heap t vs.toArray)(p:IsTup s.heap b ws.toArray)(o:vs≠ [])
  (h1:ws= []->Q (.ref t) s) (h2:ws≠ []->Q (.ref s.heap.objs.size) {s with heap:=s.heap.push {cls:= .type "tuple",data:= .seq (vs ++ ws).toArray}})
  (hsz:vs.length + ws.length<=sizeLine):wpAny (model prog w) A (binaryOp .Add (.ref t) (.ref b)) Q E s:=by
 obtain⟨⟨cls,h,data,sl⟩,a,hc,n,hd⟩:=id ht;obtain⟨⟨q,l,data2,j⟩,c,d,f,i⟩:=id p;simp only at hc hd d i;subst hc hd d i;have e:vs.toArray ++ ws.toArray=(vs ++ ws).toArray:=by simp
 by_cases hw:ws= []
 ·exact concat_meets ⟨_,a,rfl⟩ ⟨_,c,rfl⟩ noFill_tuple_add seq_tuple_add PySem.F.slot_tuple_add PySem.F.entry_tuple_add (PySem.F.args_tuple_add_2 _ _)
   (tuple_addW1 t b vs.toArray ws.toArray n f h l sl j (by simpa using o) (by simp [hw])) ⟨a,c,h1 hw⟩
 ·refine concat_meets ⟨_,a,rfl⟩ ⟨_,c,rfl⟩ noFill_tuple_add seq_tuple_add PySem.F.slot_tuple_add PySem.F.entry_tuple_add (PySem.F.args_tuple_add_2 _ _)
   (tuple_addW2 t b vs.toArray ws.toArray n f h l sl j (by simpa using o) (by simpa using hw) (by rw [wz,wz];exact hsz)) ⟨a,c,?_⟩
  rw [e];exact h2 hw
noncomputable def sIx(n d:Nat):Option Int->Nat
 | none=>d
 | some v=>if v < 0 then(v + (n:Int)).toNat else min v.toNat n
theorem sIx_none(n d:Nat):sIx n d none=d:=rfl
theorem zdK(n d:Nat)(hd:d<=n)(o:Option Int):sIx n d o<=n:=by
 cases o with
 | none=>exact hd
 | some v=>
  show(if v < 0 then(v + (n:Int)).toNat else min v.toNat n)<=n
  by_cases hv:v < 0
  ·rw [wY hv];lia
  ·rw [wM hv];exact Nat.min_le_right _ _
theorem z9u(v:Int)(n d:Nat):(if v < 0 then max (v + (n:Int)) 0 else min v (n:Int))=((sIx n d (some v):Nat):Int):=by
 show(if v < 0 then max (v + (n:Int)) 0 else min v (n:Int))=(((if v < 0 then(v + (n:Int)).toNat else min v.toNat n):Nat):Int)
 by_cases hv:v < 0
 ·simp only [wY hv];lia
 ·simp only [wM hv];lia
theorem z7W(lo hi:Option Int)(n:Nat):Builtin.Slice.sliceAdjust lo hi 1 (n:Int)=(((sIx n 0 lo:Nat):Int),((sIx n n hi:Nat):Int)):=by
 have h1:¬((1:Int) < 0):=by lia
 unfold Builtin.Slice.sliceAdjust;simp only [h1,w1d];refine Prod.ext ?_ ?_
 ·cases lo with
  | none=>rfl
  | some v=>exact z9u v n 0
 ·cases hi with
  | none=>rfl
  | some v=>exact z9u v n n
theorem z8u(i j:Nat):Builtin.Slice.slicePlaces (i:Int) (j:Int) 1=j - i:=by
 unfold Builtin.Slice.slicePlaces;have h1:(1:Int) > 0:=by lia
 simp only [h1,w1K,Int.ediv_one];split <;> lia
theorem z4a{v:Value}{o:Option Int}{Q:Option Int->Shared->Prop}(p:IsPart v o)(h:Q o s):wpAny (model prog w) A (Builtin.Slice.slicePartIndex v) Q E s:=by
 cases p with
 | none=>exact slicePart_none h
 | int i t=>exact slicePart_int h
variable{lo hi:Option Int}
theorem sliceApplied_gen{sl:Addr}{c b:Value}{n:Nat}{Q:Int×Int×Nat->Shared->Prop}(hs:s.heap.IsSliceOf sl c b .none)(pl:IsPart c lo)(d:IsPart b hi)
  (h:Q (((sIx n 0 lo:Nat):Int),1,sIx n n hi - sIx n 0 lo) s):wpAny (model prog w) A (Builtin.Slice.sliceApplied (.ref sl) (pure (n:Int))) Q E s:=by
 obtain⟨os,a,e,hds⟩:=id hs;unfold Builtin.Slice.sliceApplied Builtin.Slice.sliceFields;refine wy (wy (wpAny_field a hds (x:=c) rfl (wy (wpAny_field a hds (x:=b) rfl (wy (wpAny_field a hds (x:= .none) rfl (wV ?_)))))));refine wy (slicePart_none ?_)
 show wpAny _ _ (if((1:Int) == 0)=true then _ else _) _ _ s
 rw [wM (by decide)];refine wy (z4a pl (wy (z4a d (wy (wV ?_)))))
 show wpAny _ _ (match Builtin.Slice.sliceAdjust lo hi 1 (n:Int)with | (lo,hi)=>pure (lo,(1:Int),Builtin.Slice.slicePlaces lo hi 1)) _ _ s
 rw [z7W lo hi n]
 show wpAny _ _ (pure (((sIx n 0 lo:Nat):Int),(1:Int),Builtin.Slice.slicePlaces ((sIx n 0 lo:Nat):Int) ((sIx n n hi:Nat):Int) 1)) _ _ s
 rw [z8u];exact wV h
theorem zcm(xs:Array Value)(i k:Nat):((List.range k).filterMap λ(m:Nat)=>xs[((i:Int) + (m:Int) * 1).toNat]?).toArray=((xs.toList.drop i).take k).toArray:=by
 have e:(λ(m:Nat)=>xs[((i:Int) + (m:Int) * 1).toNat]?)=λm=>xs[i + m]? :=by
  funext m
  have:((i:Int) + (m:Int) * 1).toNat=i + m:=by lia
  rw [this]
 rw [e];have:=pick_run xs i k;rw [List.filterMap_map]at this;have a:((λx=>xs[x]?) ∘ λx=>i + x)=λm=>xs[i + m]? :=rfl
 rw [a]at this;rw [this]
theorem getItem_tuple_cut{t sl:Addr}{items:Array Value}{c b:Value}(ht:IsTup s.heap t items)(hs:s.heap.IsSliceOf sl c b .none)(pl:IsPart c lo)(j:IsPart b hi)
  (l:¬(sIx items.size 0 lo=0/\sIx items.size items.size hi=items.size))
  (h:Q (.ref s.heap.objs.size) {s with heap:=s.heap.push {cls:= .type "tuple",data:= .seq ((items.toList.drop (sIx items.size 0 lo)).take (sIx items.size items.size hi - sIx items.size 0 lo)).toArray}})
  (hsz:items.size<=sizeLine):wpAny (model prog w) A (getItem (.ref t) (.ref sl)) Q E s:=by
 have a:sizeOk (.seq ((items.toList.drop (sIx items.size 0 lo)).take (sIx items.size items.size hi - sIx items.size 0 lo)).toArray):=by
  show((items.toList.drop (sIx items.size 0 lo)).take (sIx items.size items.size hi - sIx items.size 0 lo)).toArray.size<=sizeLine
  rw [wz,wK,w0R,w0O]
  lia
 have n:sIx items.size items.size hi<=items.size:=zdK _ _ (ww _) hi;obtain⟨os,d,f,hds⟩:=id hs;have e:s.TypeIs (.ref sl) "slice":=⟨os,d,f⟩;unfold getItem
 try with_reducible refine QE ?_
 first | refine wy (wV ?_) | skip
 refine wy (wpAny_sequenceKey ht.typeIs (by decide) ?_);refine wy (wpAny_callSpecial?_slot (name:=Str.ofString "__getitem__") ht.typeIs Qa
  (wpAny_call_entry Qa ht.typeIs entry_tuple_getitem ?_ (args_tuple_getitem _ _)))
 show wpAny _ _ (Builtin.Tuple.tupleItemsOf (.ref t) >>= _) _ _ s
 refine wy (tupleItemsOf_ ht ?_);refine wy (wpAny_typeOf e ?_);rw [wY (by decide)];refine wy (sliceApplied_gen hs pl j ?_);have i:¬((((sIx items.size 0 lo:Nat):Int) == 0 && (1:Int) == 1 && (sIx items.size items.size hi - sIx items.size 0 lo) == items.size)=true):=by
  intro q;rw [qZ,qZ]at q;have o:((sIx items.size 0 lo:Nat):Int)=0:=eq_of_beq q.1.1;have p:sIx items.size items.size hi - sIx items.size 0 lo=items.size:=eq_of_beq q.2;exact l ⟨by lia,by lia⟩
 show wpAny _ _ (if(((sIx items.size 0 lo:Nat):Int) == 0 && (1:Int) == 1 && (sIx items.size items.size hi - sIx items.size 0 lo) == items.size)=true then _ else _) _ _ s
 rw [wM i,zcm]
 first
  | exact wy (m:=Builtin.Tuple.tupleExact _) (w0H (wV ⟨_,rfl,wV h⟩) a)
  | exact wy (m:=Builtin.Tuple.tupleExact _) (w0H (wy (wV (wV ⟨_,rfl,wV h⟩))) a)
  | exact wy (wy (m:=Builtin.Tuple.tupleExact _) (w0H (wV (wV ⟨_,rfl,wV h⟩)) a))
  | exact wy (wy (m:=Builtin.Tuple.tupleExact _) (w0H (wV ⟨_,rfl,wV h⟩) a))
end
end HT
namespace L2
open PySem PySem.Spec PyProof.Rows
abbrev TO:=St->Hp->(Option Int->Hp->Prop)->Prop
def PO(X:Cx)(e:Option Expr)(t:TO):Prop:=
 ∀(pins:List (Addr×Obj)) (s:Shared) (σ:St) (H:Hp) (Q:Option Int->Hp->Prop),Inv X pins σ H s->t σ H Q->
  wpAny (model X.prog X.w) X.A (evalPart e X.env) (λu s'=>∃o H',Inv X pins σ H' s'/\IsPart u o/\Q o H') X.xe s
def zcY:TO:=λ_ H Q=>Q none H
def zfn(t:TE):TO:=λσ H Q=>t σ H λx H1=>∃i,x= .int i/\Q (some i) H1
theorem intsAre_of{ns:List Int}:∀{us:List Value},zL (ns.map V.int) us->IntsAre us ns:=by
 induction ns with
 | nil=>intro us r;rw [w1q]at r;cases r;exact .nil
 | cons n ns a=>
  intro us r;rw [qC]at r;cases r with
  | cons r1 r2=>
   obtain⟨t,e⟩:=r1;subst e;exact .cons n t (a r2)
variable{X:Cx}{e:Expr}{pos:Pos}{us:List Value}
section
variable{te:TE}{lo hi:Option Expr}{tl th:TO}{p2:Pos}
theorem jX:PO X none zcY:=by
 intro pins s σ H Q I h;rw [evalPart_none];exact wV ⟨none,H,I,.none,h⟩
theorem jH(h:PE X e te):PO X (some e) (zfn te):=by
 intro pins s σ H Q I b;rw [evalPart_some];refine thn (h pins s σ H _ I b) ?_;rintro u s1 ⟨x,H1,c,r1,a⟩;obtain⟨i,rfl,q⟩:=a;obtain⟨t,rfl⟩:=r1;exact⟨some i,H1,c,.int i t,q⟩
def SlR(X:Cx)(r:V->Option Int->Option Int->Hp->VK->Prop):Prop:=
 ∀(pins:List (Addr×Obj)) (s:Shared) (σ:St) (H:Hp) (x:V) (v b a:Value) (lo hi:Option Int) (sl:Addr) (Q:VK),Inv X pins σ H s->RelV x v->s.heap.IsSliceOf sl b a .none->IsPart b lo->IsPart a hi->r x lo hi H Q->
  ∃T id,typeLookup (.type T) "__getitem__"=pure (some (.builtin id))/\s.TypeIs v T/\wpAny (model X.prog X.w) X.A (getItem v (.ref sl)) (EP X pins σ Q) X.xe s
variable{r:V->Option Int->Option Int->Hp->VK->Prop}
theorem SlR.or{r':V->Option Int->Option Int->Hp->VK->Prop}(h:SlR X r)(h':SlR X r'):SlR X (λx lo hi H Q=>r x lo hi H Q\/r' x lo hi H Q):=by
 intro pins s σ H x v b a lo hi sl Q I d hs pl c q;rcases q with q | q
 ·exact h pins s σ H x v b a lo hi sl Q I d hs pl c q
 ·exact h' pins s σ H x v b a lo hi sl Q I d hs pl c q
def tSl(r:V->Option Int->Option Int->Hp->VK->Prop)(te:TE)(tl th:TO):TE:=λσ H Q=>te σ H λx H1=>tl σ H1 λl H2=>th σ H2 λu a=>r x l u a Q
theorem jr(hr:SlR X r)(he:PE X e te)(hl:PO X lo tl)(B:PO X hi th):PE X (.Subscript e (.Slice lo hi none p2) pos) (tSl r te tl th):=by
 intro pins s σ H Q I h;refine Subscript_ (thn (he pins s σ H _ I h) ?_);rintro v s1 ⟨x,H1,y,r1,i⟩;refine wpAny_Slice (thn (hl pins s1 σ H1 _ y i) ?_);rintro d s2 ⟨l,H2,D,pl,t⟩;refine thn (B pins s2 σ H2 _ D t) ?_;rintro c a ⟨u,f,n,C,p⟩;rw [evalPart_none];refine wV ?_;have j:Inv X pins σ f {a with heap:=a.heap.push {cls:= .type "slice",data:= .fields #[d,c,.none]}}:=n.kept (t':=a.toks) λb E q=>wo _ q
 obtain⟨T,id,o,ht,z⟩:=hr pins {a with heap:=a.heap.push {cls:= .type "slice",data:= .fields #[d,c,.none]}} σ f x v d c l u a.heap.objs.size Q j r1 (Heap.IsSliceOf.new ..) pl C p
 show wpAny (model X.prog X.w) X.A (subscriptTail e (.Slice lo hi none p2) v (.ref a.heap.objs.size)) (EP X pins σ Q) X.xe {a with heap:=a.heap.push {cls:= .type "slice",data:= .fields #[d,c,.none]}}
 exact tail_any (ops:= [.ref a.heap.objs.size,v]) ht o z (by with_unfolding_all rfl)
noncomputable def z1A(xs:List V)(lo hi:Option Int):List V:=(xs.drop (HT.sIx xs.length 0 lo)).take (HT.sIx xs.length xs.length hi - HT.sIx xs.length 0 lo)
theorem z3y(xs:List V)(lo hi:Option Int):(z1A xs lo hi).length<=xs.length:=by
 unfold z1A;rw [wK,w0R]
 lia
def zeO(K:W.Frag):V->Option Int->Option Int->Hp->VK->Prop:=λx lo hi H Q=>∃a xs,x= .ref a/\SqT K H a xs/\
 ¬(HT.sIx xs.length 0 lo=0/\HT.sIx xs.length xs.length hi=xs.length)/\∀p,H p=none->Q (.ref p) (upd H p (.tup (z1A xs lo hi)))
theorem z4F:SlR X (zeO X.K):=by
 intro pins s σ H x v j i lo hi sl Q I e hs pl d h;obtain⟨a,xs,rfl,c,f,q⟩:=h;cases e;obtain⟨a6,r,ht,hz⟩:=I.tuple c;have hlen:a6.toArray.size=xs.length:=by rw [wz];exact r.length.symm
 refine⟨"tuple",_,Qa.lookup,ht.typeIs,?_⟩;refine HT.getItem_tuple_cut ht hs pl d (by rw [hlen];exact f) ?_ (by rw [hlen];exact hz);rw [hlen];refine⟨.ref s.heap.objs.size,_,I.laid (t':=s.toks) (o:= .tup (z1A xs lo hi)) (λb l q=>wo _ q) (ww _) ?_,rfl,q _ (I.hok.fresh (ww _))⟩;exact⟨wP (z3y xs lo hi) hz,_,(r.drop (HT.sIx xs.length 0 lo)).take (HT.sIx xs.length xs.length hi - HT.sIx xs.length 0 lo),IsTup.new _ _⟩
def zeQ(K:W.Frag):R2:=λx y H Q=>∃a b xs ys,x= .ref a/\y= .ref b/\SqT K H a xs/\SqT K H b ys/\xs≠ []/\xs.length + ys.length<=sizeLine/\
 (ys= []->Q (.ref a) H)/\(ys≠ []->∀p,H p=none->Q (.ref p) (upd H p (.tup (xs ++ ys))))
theorem zL.nil_iff{xs:List V}(r:zL xs us):us= []↔xs= []:=by
 cases r with
 | nil=>simp
 | cons _ _=>simp
theorem z8S:OpR X (binaryOp .Add) (zeQ X.K):=by
 intro pins s σ H x y v u Q I l j h;obtain⟨a,b,xs,ys,rfl,rfl,ha,f,d,hz,c,i⟩:=h;cases l;cases j;obtain⟨a6,r1,e,_⟩:=I.tuple ha;obtain⟨n,r2,p2,_⟩:=I.tuple f;refine HT.cat_tup e p2 (λz=>d (r1.nil_iff.mp z)) (λz=>⟨.ref a,H,I,rfl,c (r2.nil_iff.mp z)⟩) (λz=> ?_) (by rw [<-r1.length,<-r2.length];exact hz);refine⟨.ref s.heap.objs.size,_,I.laid (t':=s.toks) (o:= .tup (xs ++ ys)) (λb p q=>wo _ q) (ww _) ?_,rfl,i (λw=>z (r2.nil_iff.mpr w)) _ (I.hok.fresh (ww _))⟩;exact⟨by rw [wg];exact hz,_,r1.append r2,IsTup.new _ _⟩
end
noncomputable def ixN(n:Nat)(i:Int):Option Nat:=if 0<=i then(if i < n then some i.toNat else none)else if -(n:Int)<=i then some (i + n).toNat else none
variable{α:Type}
noncomputable def atI(xs:List α)(i:Int):Option α:=(ixN xs.length i).bind λj=>xs[j]?
variable{n j:Nat}{i:Int}
theorem z8T(h:ixN n i=some j):seqIndex? i n=some j/\j < n/\-(n:Int)<=i/\i < n:=by
 unfold ixN at h;by_cases h0:0<=i
 ·rw [wY h0]at h;by_cases h1:i < n
  ·rw [wY h1]at h;have e:i.toNat=j:=Option.some.inj h;exact⟨by rw [seqIndex_of h0 h1,e],by lia,by lia,h1⟩
  ·rw [wM h1]at h;cases h
 ·rw [wM h0]at h;by_cases h1: -(n:Int)<=i
  ·rw [wY h1]at h;have e:(i + n).toNat=j:=Option.some.inj h;exact⟨by rw [seqIndex_neg (by lia) h1,e],by lia,h1,by lia⟩
  ·rw [wM h1]at h;cases h
variable{xs:List α}
theorem z60{v:α}(h:atI xs i=some v):∃j,seqIndex? i xs.length=some j/\xs[j]? =some v/\j < xs.length/\-(xs.length:Int)<=i/\i < xs.length:=by
 unfold atI at h;cases e:ixN xs.length i with
 | none=>rw [e]at h;cases h
 | some j=>
  rw [e]at h;obtain⟨h1,h2,b,a⟩:=z8T e;exact⟨j,h1,h,h2,b,a⟩
theorem zW{v:α}(h:xs[j]? =some v):atI xs (j:Int)=some v:=by
 have a:j < xs.length:=(we.mp h).1;have e:ixN xs.length (j:Int)=some j:=by
  unfold ixN;rw [wY (by lia),wY (by lia)];simp
 unfold atI;rw [e];exact h
theorem zbd(xs:List α)(v:α):atI (xs ++ [v]) (-1)=some v:=by
 have hl:(xs ++ [v]).length=xs.length + 1:=by simp
 have e:ixN (xs ++ [v]).length (-1)=some xs.length:=by
  unfold ixN;rw [hl,wM (by decide),wY (by lia)]
  congr 1
  lia
 unfold atI;rw [e]
 show(xs ++ [v])[xs.length]? =some v
 simp
def z6o(b:Expr):Prop:=∀o i,subscripted b false o i=operate [o,i] (getItem o i)
def IxR(X:Cx)(r:R2):Prop:=
 ∀(value slice:Expr) (pins:List (Addr×Obj)) (s:Shared) (σ:St) (H:Hp) (x y:V) (v u:Value) (Q:VK),Inv X pins σ H s->RelV x v->RelV y u->r x y H Q->
  subscripted slice false v u=operate [v,u] (getItem v u)->wpAny (model X.prog X.w) X.A (subscriptTail value slice v u) (EP X pins σ Q) X.xe s
def MtR(X:Cx)(id:String)(r:V->List V->Hp->VK->Prop):Prop:=
 ∀(pins:List (Addr×Obj)) (s:Shared) (σ:St) (H:Hp) (x:V) (xs:List V) (v:Value) (us:List Value) (Q:VK),Inv X pins σ H s->RelV x v->zL xs us->r x xs H Q->
  wpAny (model X.prog X.w) X.A (call (.builtin id) (v :: us)) (EP X pins σ Q) X.xe s
variable{pins:List (Addr×Obj)}{H:Hp}{s:Shared}{a6:List Value}{A:Around}{y x:V}{u:Value}{T:String}
section
variable{a b:Expr}{ta tb:TE}
theorem yw{r:R2}(hr:IxR X r)(ha:PE X a ta)(c:PE X b tb)(hs:z6o b):PE X (.Subscript a b pos) (tOp r ta tb):=by
 intro pins s σ H Q I h;exact Subscript_ (zep ha c I h λv u s2 x y H2 f e d q=>hr a b pins s2 σ H2 x y v u Q f e d q (hs _ _))
def zej(K:W.Frag):R2:=λx y H Q=>∃p xs i v,x= .ref p/\y= .int i/\SqL K H p xs/\atI xs i=some v/\Q v H
def zef(K:W.Frag):R2:=λx y H Q=>∃p xs i v,x= .ref p/\y= .int i/\SqT K H p xs/\atI xs i=some v/\Q v H
def zfQ:R2:=λx y H Q=>∃z i c,x= .str z/\y= .int i/\z.length<=sizeLine/\atI z.cps.toList i=some c/\Q (.str ⟨#[c]⟩) H
theorem z8R:IxR X (zej X.K):=by
 intro value slice pins s σ H x y v u Q I l e h hs;obtain⟨p,xs,i,z,rfl,rfl,hq,he,q⟩:=h;cases l;obtain⟨t,rfl⟩:=e;obtain⟨a6,r,pl,hz⟩:=I.list hq;obtain⟨j,h1,h2,n,d,f⟩:=z60 he;obtain⟨w,b,c⟩:=r.get h2;have hl:=r.length;have hn:=z2v;have fin:EP X pins σ Q w s:=⟨z,H,I,c,q⟩;by_cases h0:0<=i
 ·have a:i.toNat=j:=by
   rw [seqIndex_of h0 f]at h1;exact Option.some.inj h1
  exact item_listR pl.isList h0 (by lia) (by rw [a];simpa using b) fin hs
 ·have a:(i + (a6.toArray.size:Int)).toNat=j:=by
   rw [seqIndex_neg (by lia) d]at h1;rw [wz,<-hl];exact Option.some.inj h1
  exact subscriptTail_builtinR (x:=w) pl.isList.typeIs slot_list_getitem.lookup
   (wpAny_getItem_list_neg (Q:=λr s'=>r=w/\EP X pins σ Q r s') pl.isList (by lia) (by rw [wz] <;> lia) (by lia) (by rw [a];simpa using b) ⟨rfl,fin⟩) hs
theorem zbz:IxR X (zef X.K):=by
 intro value slice pins s σ H x y v u Q I d c h hs;obtain⟨p,xs,i,z,rfl,rfl,hq,he,q⟩:=h;cases d;obtain⟨t,rfl⟩:=c;obtain⟨a6,r,pl,hz⟩:=I.tuple hq;obtain⟨j,h1,h2,e,f,l⟩:=z60 he;obtain⟨w,a,b⟩:=r.get h2;have hl:=r.length;have hn:=z2v;have fin:EP X pins σ Q w s:=⟨z,H,I,b,q⟩;exact subscriptTail_builtinR (x:=w) pl.typeIs slot_tuple_getitem.lookup
  (getItem_tuple (j:=j) (Q:=λr s'=>r=w/\EP X pins σ Q r s') pl (by lia) (by lia) (by rw [wz,<-hl];exact h1) (by simpa using a) ⟨rfl,fin⟩) hs
theorem zea:IxR X zfQ:=by
 intro value slice pins s σ H x y v u Q I f d h hs;obtain⟨z,i,c,rfl,rfl,hz,he,q⟩:=h;obtain⟨t,rfl⟩:=f;obtain⟨t',rfl⟩:=d;obtain⟨j,h1,h2,n,a,e⟩:=z60 he;have hl:z.cps.toList.length=z.length:=by simp [Str.length]
 rw [hl]at h1 a e;have hn:=z2v;exact tail_any (typeIs_str s z t) slot_str_getitem.lookup (getItem_str (c:=c) (by
  have b:decide (i < -(2 ^ 63:Int))=false:=wH (by lia);have l:decide (i≥2 ^ 63)=false:=wH (by lia);rw [b,l,Bool.or_false]) (by rw [h1];simpa using h2) ⟨.str ⟨#[c]⟩,H,I.tok _,⟨_,rfl⟩,q⟩) hs
theorem z8C(a6:List Value)(n j:Nat)(u:Value):Obj.mapSeq (·.setIfInBounds j u) {cls:= .type "list",data:= .seq a6.toArray n}={cls:= .type "list",data:= .seq (a6.set j u).toArray n}:=by
 simp [Obj.mapSeq]
theorem Inv.lst{pins:List (Addr×Obj)}{σ:St}{H:Hp}{s:Shared}{p:Addr}{xs:List V}(I:Inv X pins σ H s)(h:H p=some (.lst xs)):
  ∃(a6:List Value) (n:Nat),zL xs a6/\s.heap.get? p=some {cls:= .type "list",data:= .seq a6.toArray n}/\xs.length<=sizeLine:=by
 obtain⟨z,a6,n,r,e⟩:=I.hok p _ h;exact⟨a6,n,r,e,z⟩
theorem Inv.lstUpd{σ:St}{p:Addr}{xs ys:List V}{its':List Value}{a:Nat}{f:Obj->Obj}(I:Inv X pins σ H s)(h:H p=some (.lst xs))
  (i:s.heap.get? p=some {cls:= .type "list",data:= .seq a6.toArray n}) (c:f {cls:= .type "list",data:= .seq a6.toArray n}={cls:= .type "list",data:= .seq its'.toArray a}) (r:zL ys its') (hz:ys.length<=sizeLine) (t:Nat):
  Inv X pins σ (upd H p (.lst ys)) {s with heap:=s.heap.update p f,toks:=t}:=by
 have e:(s.heap.update p f).get? p=some {cls:= .type "list",data:= .seq its'.toArray a}:=by
  rw [w13 f i (by rw [c] <;> rfl),c]
 refine I.write (x:=p) (e:=p) (by rw [h];trivial) (.inl rfl) (λb u d q=>(Q5 _ _ (w1r d)).trans q) ⟨_,e⟩ ?_;exact⟨hz,its',a,r,e⟩
def zfd:V->V->V->Hp->(Hp->Prop)->Prop:=λo i v H Q=>∃p xs k j,o= .ref p/\i= .int k/\H p=some (.lst xs)/\ixN xs.length k=some j/\Q (upd H p (.lst (xs.set j v)))
theorem set_list:zeX X zfd:=by
 intro pins s σ H o i v z y u Q I x l w h;obtain⟨p,xs,k,j,rfl,rfl,hp,f,q⟩:=h;cases x;obtain⟨t,rfl⟩:=l;obtain⟨a6,n,r,a,hz⟩:=I.lst hp;obtain⟨h1,h2,d,e⟩:=z8T f;have hl:=r.length;have hn:=z2v;have c:Inv X pins σ (upd H p (.lst (xs.set j v))) {s with heap:=s.heap.update p (Obj.mapSeq (·.setIfInBounds j u))}:=
  I.lstUpd hp a (z8C a6 n j u) (r.set w j) (by rw [List.length_set];exact hz) s.toks
 by_cases h0:0<=k
 ·have b:k.toNat=j:=by
   rw [seqIndex_of h0 e]at h1;exact Option.some.inj h1
  exact PySem.W.ki_setAt a h0 (by lia) (by rw [wz,<-hl];exact e) (by rw [b];exact⟨_,c,q⟩)
 ·have b:(k + (a6.toArray.size:Int)).toNat=j:=by
   rw [seqIndex_neg (by lia) d]at h1;rw [wz,<-hl];exact Option.some.inj h1
  exact PySem.W.ki_setBack a (by lia) (by rw [wz,<-hl];exact d) (by lia) (by rw [b];exact⟨_,c,q⟩)
theorem z67(lo hi:Option Int)(n:Nat):(sliceBounds lo hi none n).1=((HT.sIx n 0 lo:Nat):Int)/\(sliceBounds lo hi none n).2.1=((HT.sIx n n hi:Nat):Int)/\(sliceBounds lo hi none n).2.2=1:=by
 refine⟨?_,?_,rfl⟩
 ·cases lo with
  | none=>simp [sliceBounds,HT.sIx]
  | some i=>
   simp only [sliceBounds,HT.sIx,Option.getD_none,show(1:Int) > 0 by decide,w1K];by_cases h:i < 0
   ·simp only [h,w1K] <;> lia
   ·simp only [h,w1d] <;> lia
 ·cases hi with
  | none=>simp [sliceBounds,HT.sIx]
  | some i=>
   simp only [sliceBounds,HT.sIx,Option.getD_none,show(1:Int) > 0 by decide,w1K];by_cases h:i < 0
   ·simp only [h,w1K] <;> lia
   ·simp only [h,w1d] <;> lia
theorem z5c(a6:List Value)(lo hi:Option Int):slicePick a6.toArray lo hi none=((a6.drop (HT.sIx a6.length 0 lo)).take (HT.sIx a6.length a6.length hi - HT.sIx a6.length 0 lo)).toArray:=by
 obtain⟨h1,h2,a⟩:=z67 lo hi a6.toArray.size;unfold slicePick;rw [h1,h2,a];simp only [sliceRange_one,pick_run,wz] <;> rfl
def zfL(K:W.Frag):V->Option Int->Option Int->Hp->VK->Prop:=λx lo hi H Q=>∃a xs,x= .ref a/\SqL K H a xs/\∀p,H p=none->Q (.ref p) (upd H p (.lst (z1A xs lo hi)))
theorem yF:SlR X (zfL X.K):=by
 intro pins s σ H x v i f lo hi sl Q I e hs pl d h;obtain⟨a,xs,rfl,c,q⟩:=h;cases e;obtain⟨a6,r,ht,hz⟩:=I.list c;have hlen:=r.length;refine⟨"list",_,slot_list_getitem.lookup,ht.isList.typeIs,?_⟩;refine wpAny_getItem_list_slice ht.isList hs pl d .none (by simp) ?_ (by rw [wz] <;> lia);rw [z5c,<-hlen];refine⟨.ref s.heap.objs.size,_,I.laid (t':=s.toks) (o:= .lst (z1A xs lo hi)) (λb j q=>wo _ q) (ww _) ?_,rfl,q _ (I.hok.fresh (ww _))⟩;exact⟨wP (z3y xs lo hi) hz,_,0,(r.drop (HT.sIx xs.length 0 lo)).take (HT.sIx xs.length xs.length hi - HT.sIx xs.length 0 lo),q5 _ rfl⟩
noncomputable def yW:V->Bool
 | .non=>true
 | .bl _=>true
 | .int _=>true
 | .str _=>true
 | _=>false
noncomputable def eqV:V->V->Bool
 | .non,.non=>true
 | .bl a,.bl b=>a == b
 | .bl a,.int b=>(if a then 1 else 0) == b
 | .int a,.bl b=>a == (if b then 1 else 0)
 | .int a,.int b=>a == b
 | .str a,.str b=>a == b
 | _,_=>false
theorem z68{v:Value}(d:RelV y u)(c:RelV x v)(f:yW y=true)(e:yW x=true):SeqAt.EqAt A s u v (eqV y x):=by
 cases y with
 | non=>
  cases d;cases x with
  | non=>cases c;exact SeqAt.EqAt.same _
  | bl b=>cases c;exact SeqAt.EqAt.none_bool b
  | int b=>obtain⟨t,rfl⟩:=c;exact SeqAt.EqAt.none_int b t
  | str b=>obtain⟨t,rfl⟩:=c;exact SeqAt.EqAt.none_str b t
  | _=>exact absurd (show false=true from e) wO
 | bl a=>
  cases d;cases x with
  | non=>cases c;exact SeqAt.EqAt.bool_none a
  | bl b=>cases c;exact SeqAt.EqAt.bool_bool a b
  | int b=>obtain⟨t,rfl⟩:=c;exact SeqAt.EqAt.bool_int a b t
  | str b=>obtain⟨t,rfl⟩:=c;exact SeqAt.EqAt.bool_str a b t
  | _=>exact absurd (show false=true from e) wO
 | int a=>
  obtain⟨t',rfl⟩:=d;cases x with
  | non=>cases c;exact SeqAt.EqAt.int_none a t'
  | bl b=>cases c;exact SeqAt.EqAt.int_bool a t' b
  | int b=>obtain⟨t,rfl⟩:=c;exact SeqAt.EqAt.int_int a t' b t
  | str b=>obtain⟨t,rfl⟩:=c;exact SeqAt.EqAt.int_str a t' b t
  | _=>exact absurd (show false=true from e) wO
 | str a=>
  obtain⟨t',rfl⟩:=d;cases x with
  | non=>cases c;exact SeqAt.EqAt.str_none a t'
  | bl b=>cases c;exact SeqAt.EqAt.str_bool a t' b
  | int b=>obtain⟨t,rfl⟩:=c;exact SeqAt.EqAt.str_int a t' b t
  | str b=>obtain⟨t,rfl⟩:=c;exact SeqAt.EqAt.str_str a t' b t
  | _=>exact absurd (show false=true from e) wO
 | _=>exact absurd (show false=true from f) wO
noncomputable def eqU(x:V)(u:Value):Bool:=match u with
 | .none=>eqV .non x
 | .bool b=>eqV (.bl b) x
 | .int i _=>eqV (.int i) x
 | .str z _=>eqV (.str z) x
 | _=>false
theorem z6j(r:RelV y u)(f:yW y=true):eqU x u=eqV y x:=by
 cases y with
 | non=>cases r;rfl
 | bl b=>cases r;rfl
 | int i=>obtain⟨t,rfl⟩:=r;rfl
 | str z=>obtain⟨t,rfl⟩:=r;rfl
 | _=>exact absurd (show false=true from f) wO
theorem z2A{x:V}:∀{xs:List V} {us:List Value},zL xs us->xs.all yW=true->us.any (eqU x)=xs.any λy=>eqV y x
 | _,_,.nil,_=>rfl
 | y :: xs,u :: us,.cons r t,f=>by
  rw [List.all_cons,qZ]at f;rw [w1t,w1t,z6j r f.1,z2A t f.2]
theorem z15{A:Around}{s:Shared}{x:V}{v:Value}(b:RelV x v)(a:yW x=true):∀{xs:List V} {us:List Value},zL xs us->xs.all yW=true->∀u∈us,SeqAt.EqAt A s u v (eqU x u)
 | _,_,.nil,_=>λu hu=>by cases hu
 | y :: xs,u :: us,.cons r t,f=>λc hu=>by
  rw [List.all_cons,qZ]at f;rcases wG.mp hu with rfl | hu
  ·rw [z6j r f.1];exact z68 r b f.1 a
  ·exact z15 b a t f.2 c hu
noncomputable def inV(x:V)(xs:List V):Bool:=xs.any λy=>eqV y x
def rIn(K:W.Frag)(a:Bool):R2:=λx y H Q=>∃p xs,y= .ref p/\(SqL K H p xs\/SqT K H p xs)/\yW x=true/\xs.all yW=true/\Q (.bl (if a then !inV x xs else inV x xs)) H
theorem kK:OpR X (compareOp .In) (rIn X.K false):=by
 intro pins s σ H x y v u Q I c d h;obtain⟨p,xs,rfl,hq,b,fs,q⟩:=h;cases d;rcases hq with hq | hq
 ·obtain⟨a6,r,pl,hz⟩:=I.list hq;refine SeqAt.in_listAt (eqU x) pl.isList (λw a=>z15 c b r fs w (by simpa using a)) ⟨.bl _,H,I,rfl,?_⟩;rw [show a6.toArray.any (eqU x)=a6.any (eqU x) by simp,z2A r fs];exact q
 ·obtain⟨a6,r,pl,hz⟩:=I.tuple hq;refine SeqAt.in_tupleAt (eqU x) pl (λw a=>z15 c b r fs w (by simpa using a)) ⟨.bl _,H,I,rfl,?_⟩;rw [show a6.toArray.any (eqU x)=a6.any (eqU x) by simp,z2A r fs];exact q
theorem ki:OpR X (compareOp .NotIn) (rIn X.K true):=by
 intro pins s σ H x y v u Q I c d h;obtain⟨p,xs,rfl,hq,b,fs,q⟩:=h;cases d;rcases hq with hq | hq
 ·obtain⟨a6,r,pl,hz⟩:=I.list hq;refine SeqAt.notIn_listAt (eqU x) pl.isList (λw a=>z15 c b r fs w (by simpa using a)) ⟨.bl _,H,I,rfl,?_⟩;rw [show a6.toArray.any (eqU x)=a6.any (eqU x) by simp,z2A r fs];exact q
 ·obtain⟨a6,r,pl,hz⟩:=I.tuple hq;refine SeqAt.notIn_tupleAt (eqU x) pl (λw a=>z15 c b r fs w (by simpa using a)) ⟨.bl _,H,I,rfl,?_⟩;rw [show a6.toArray.any (eqU x)=a6.any (eqU x) by simp,z2A r fs];exact q
theorem z2I:kj X (.builtin "len") (λxs H Q=>∃p ys,xs= [.ref p]/\(SqL X.K H p ys\/SqT X.K H p ys)/\Q (.int ys.length) H):=by
 intro pins s σ H xs us Q I r h;obtain⟨p,ys,rfl,hq,q⟩:=h;obtain⟨u,rfl,a⟩:=vals1 r;cases a;have hn:=z2v;rcases hq with hq | hq
 ·obtain⟨a6,r',pl,hz⟩:=I.list hq;have hlen:=r'.length;exact Calls.call_len_list pl.isList (by simp only [wz] <;> lia) ⟨.int ys.length,H,I.tok _,⟨s.toks + 1,by rw [wz,hlen]⟩,q⟩
 ·obtain⟨a6,r',pl,hz⟩:=I.tuple hq;have hlen:=r'.length;exact len_tuple pl (by simp only [wz] <;> lia) ⟨.int ys.length,H,I.tok _,⟨s.toks + 1,by rw [wz,hlen]⟩,q⟩
theorem yE:kj X (.type "list") (λxs H Q=>∃p ys,xs= [.ref p]/\(SqL X.K H p ys\/SqT X.K H p ys)/\∀l,H l=none->Q (.ref l) (upd H l (.lst ys))):=by
 intro pins s σ H xs us Q I r h;obtain⟨p,ys,rfl,hq,q⟩:=h;obtain⟨u,rfl,c⟩:=vals1 r;cases c;have fin:∀(a6:List Value),zL ys a6->ys.length<=sizeLine->∀(h':Heap) (c':Nat),(∀b o',s.heap.get? b=some o'->h'.get? b=some o')->
   h'.get? s.heap.objs.size=some {cls:= .type "list",dict:=none,data:= .seq a6.toArray c',slots:= #[]}->EP X pins σ Q (.ref s.heap.objs.size) {s with heap:=h'}:=λa6 r' hz h' c' kp e=>
  ⟨.ref s.heap.objs.size,_,I.laid (t':=s.toks) kp (ww _) (show jt X.prog X.w _ h' _ (.lst ys)from⟨hz,a6,c',r',e⟩),rfl,q _ (I.hok.fresh (ww _))⟩
 rcases hq with hq | hq
 ·obtain⟨a6,r',pl,hz⟩:=I.list hq;have hlen:=r'.length;obtain⟨o,a,hc,n,hd⟩:=pl.isList;exact call_list_seq p (.inl rfl) a hc hd (λh' c' kp e=>fin a6 r' hz h' c' kp e) (by simp only [wz] <;> lia)
 ·obtain⟨a6,r',pl,hz⟩:=I.tuple hq;have hlen:=r'.length;obtain⟨o,a,hc,n,hd⟩:=pl;exact call_list_seq p (.inr rfl) a hc hd (λh' c' kp e=>fin a6 r' hz h' c' kp e) (by simp only [wz] <;> lia)
theorem z0T:kj X (.type "tuple") (λxs H Q=>∃p ys,xs= [.ref p]/\((SqL X.K H p ys/\∀l,H l=none->Q (.ref l) (upd H l (.tup ys)))\/(SqT X.K H p ys/\Q (.ref p) H))):=by
 intro pins s σ H xs us Q I r h;obtain⟨p,ys,rfl,h⟩:=h;obtain⟨u,rfl,c⟩:=vals1 r;cases c;rcases h with⟨hq,q⟩ | ⟨hq,q⟩
 ·obtain⟨a6,r',pl,hz⟩:=I.list hq;have hlen:=r'.length;refine call_tuple_list pl.isList (λh' kp=> ?_) (by simp only [wz] <;> lia);have a:Inv X pins σ H {s with heap:=h'}:=I.kept (t':=s.toks) kp;have d:Inv X pins σ (upd H h'.objs.size (.tup ys)) {s with heap:=h'.push {cls:= .type "tuple",data:= .seq a6.toArray}}:=
   a.laid (t':=s.toks) (λb o e=>wo _ e) (ww _) (show jt X.prog X.w _ _ _ (.tup ys)from⟨hz,a6,r',IsTup.new _ _⟩)
  exact⟨.ref h'.objs.size,_,d,rfl,q _ (a.hok.fresh (ww _))⟩
 ·obtain⟨a6,r',pl,hz⟩:=I.tuple hq;exact call_tuple_same pl ⟨.ref p,H,I,rfl,q⟩
def tyV(K:W.Frag)(T:String)(x:V)(H:Hp):Prop:=match x with
 | .str _=>T="str"
 | .int _=>T="int"
 | .ref p=>(T="list"/\∃xs,SqL K H p xs)\/(T="tuple"/\∃o,K.lookup p=some o/\o.cls= .type "tuple"/\o.dict=none)\/
   (T="dict"/\((∃kvs,H p=some (.dK kvs))\/∃kvs,H p=some (.dT kvs)))\/(T="set"/\∃S n,H p=some (.set S n))
 | _=>False
theorem zcd{σ:St}{v:Value}(I:Inv X pins σ H s)(r:RelV x v)(ty:tyV X.K T x H):
  s.TypeIs v T/\∀a,v= .ref a->∃d,s.heap.get? a=some d/\d.dict=none:=by
 cases x with
 | str z=>
  obtain⟨t,rfl⟩:=r;cases (show T="str" from ty);exact⟨typeIs_str s z t,λ_ e=>nomatch e⟩
 | int i=>
  obtain⟨t,rfl⟩:=r;cases (show T="int" from ty);exact⟨typeIs_int s i t,λ_ e=>nomatch e⟩
 | ref p=>
  cases r;rcases ty with⟨rfl,xs,hq⟩ | ⟨rfl,o,hk,hc,hd⟩ | ⟨rfl,hk⟩ | ⟨rfl,S,n,hk⟩
  ·obtain⟨a6,_,pl,_⟩:=I.list hq;refine⟨pl.isList.typeIs,λa e=> ?_⟩;cases e;obtain⟨o,n,e,c,hd,_⟩:=pl;exact⟨o,e,hd⟩
  ·refine⟨⟨o,I.kIn p o hk,hc⟩,λa e=> ?_⟩;cases e;exact⟨o,I.kIn _ o hk,hd⟩
  ·have z:∃o,s.heap.get? p=some o/\o.ExactDict:=by
    rcases hk with⟨kvs,hk⟩ | ⟨kvs,hk⟩
    ·obtain⟨_,_,_,_,o,_,_,e,ex,_⟩:=I.hok p _ hk;exact⟨o,e,ex⟩
    ·obtain⟨_,_,_,_,o,_,_,e,ex,_⟩:=I.hok p _ hk;exact⟨o,e,ex⟩
   obtain⟨o,e,ex⟩:=z;refine⟨⟨o,e,ex.1⟩,λa b=> ?_⟩;cases b;exact⟨o,e,ex.2.1⟩
  ·obtain⟨o,_,_,_,e,ex,_⟩:=I.hok p _ hk;refine⟨⟨o,e,ex.1⟩,λa b=> ?_⟩;cases b;exact⟨o,e,ex.2.1⟩
 | _=>exact False.elim ty
def zft(K:W.Frag)(T:String)(r:V->List V->Hp->VK->Prop)(to:TE):TE:=λσ H Q=>to σ H λx H1=>tyV K T x H1/\r x [] H1 Q
def tBM(K:W.Frag)(T:String)(r:V->List V->Hp->VK->Prop)(to:TE)(t:TA):TE:=λσ H Q=>to σ H λx H1=>tyV K T x H1/\t σ H1 λxs H2=>r x xs H2 Q
variable{o:Expr}{es:List Expr}{to:TE}{t:TA}{name:Str}{apos ae:Pos}{id:String}{r:V->List V->Hp->VK->Prop}
theorem z4B(d:PlainAttrs T)(slot:Slot T name id)(e:typeOf (.builtin id)=pure (.type "method_descriptor"))(hm:MtR X id r)(c:PE X o to)
  (f:attributeBase o name X.env (eval o X.env)=eval o X.env:=by rfl) (i:(apos.endLine == ae.line)=true:=by rfl):PE X (.Call (.Attribute o name apos) [] [] ae) (zft X.K T r to):=by
 intro pins s σ H Q I h;refine wpAny_Call_method0_late f i (thn (c pins s σ H _ I h) ?_);rintro v s1 ⟨x,H1,a,r1,ty,b⟩;obtain⟨h1,h2⟩:=zcd a r1 ty;exact⟨T,id,d,slot,e,h1,h2,w0U rfl (PySem.evalArgs_none (hm pins s1 σ H1 x [] v [] Q a r1 .nil b))⟩
theorem ky(f:PlainAttrs T)(slot:Slot T name id)(i:typeOf (.builtin id)=pure (.type "method_descriptor"))(hm:MtR X id r)(d:PE X o to)(ha:PA X (e :: es) t)
  (l:attributeBase o name X.env (eval o X.env)=eval o X.env:=by rfl)
  (p:((backTo ae (starEach (e :: es) X.env)).all (λx=> !x.1) && (backToKw ae (keywordEach [] X.env)).all (λx=>x.1.isSome)
   && decide ((e :: es).length + ([]:List Keyword).length + (if([]:List Keyword).isEmpty then 0 else 1) < 30))=true:=by rfl)
  (n:(apos.endLine == ae.line)=true:=by rfl) (hs:starEach (e :: es) X.env=(false,eval e X.env) :: starEach es X.env:=by rfl) (hplain:(backTo ae (starEach es X.env)).any (·.1)=false:=by rfl):
  PE X (.Call (.Attribute o name apos) (e :: es) [] ae) (tBM X.K T r to t):=by
 intro pins s σ H Q I h;refine wpAny_Call_method_late l p n rfl (thn (d pins s σ H _ I h) ?_);rintro v s1 ⟨x,H1,a,r1,ty,c⟩;obtain⟨h1,h2⟩:=zcd a r1 ty;refine⟨T,id,f,slot,i,h1,h2,?_⟩;have b:=ha ae pins s1 σ H1 _ a c;rw [hs]at b ⊢;refine w0U (by show(false || (backTo ae (starEach es X.env)).any (·.1))=false;rw [hplain] <;> rfl) (Calls.evalArgs_plain ?_);exact thn b λus s2 ⟨vs,H2,q,r2,j⟩=>hm pins s2 σ H2 x vs v us Q q r1 r2 j
end
def MtM(X:Cx)(id:String)(r:V->List V->Hp->VK->Prop):Prop:=
 ∀(pins:List (Addr×Obj)) (s:Shared) (σ:St) (H:Hp) (x:V) (xs:List V) (v:Value) (us:List Value) (Q:VK),Inv X pins σ H s->RelV x v->zL xs us->r x xs H Q->
  wpAny (model X.prog X.w) X.A (call (.builtin id) (v :: us)) (EP X pins σ Q) X.xe s
theorem zL.one(h:zL [x] us):∃u,us= [u]/\RelV x u:=by
 rcases h with _ | ⟨r,t⟩;cases t;exact⟨_,rfl,r⟩
def zL.zero:∀{us:List Value},zL [] us->us= []
 | _,.nil=>rfl
theorem zL.dropLast{xs:List V}(h:zL xs us):zL xs.dropLast us.dropLast:=by
 induction h with
 | nil=>exact .nil
 | cons r t a=>
  cases t with
  | nil=>exact .nil
  | cons q t'=>exact .cons r a
theorem z8l(l:List α):l.eraseIdx (l.length - 1)=l.dropLast:=by
 induction l with
 | nil=>rfl
 | cons a r c=>
  cases r with
  | nil=>rfl
  | cons b r=>
   have e:(a :: b :: r).length - 1=((b :: r).length - 1) + 1:=by
    have h1:(a :: b :: r).length=r.length + 2:=rfl;have h2:(b :: r).length=r.length + 1:=rfl
    lia
   rw [e,List.eraseIdx_cons_succ,c]
   all_goals rfl
variable{t':Nat}
section
variable{σ:St}{l b:Addr}{xs ys zs:List V}
theorem Inv.lset{its':List Value}{f:Array Value->Array Value}(I:Inv X pins σ H s)(d:H l=some (.lst xs))
  (e:s.heap.get? l=some {cls:= .type "list",data:= .seq a6.toArray n}) (c:f a6.toArray=its'.toArray) (h:zL ys its') (hz:ys.length<=sizeLine):
  Inv X pins σ (upd H l (.lst ys)) {s with heap:=s.heap.update l (Obj.mapSeq f),toks:=t'}:=by
 have q:=PySem.IsL.update e f;rw [c]at q;refine I.write (x:=l) (e:=l) (by rw [d];exact trivial) (.inl rfl) (λb' u a b=>(Q5 s.heap (Obj.mapSeq f) (w1r a)).trans b) ⟨_,q⟩ ?_;exact⟨hz,its',_,h,q⟩
def Inv.lnew(I:Inv X pins σ H s)(a:zL ys a6)(hz:ys.length<=sizeLine):
  Inv X pins σ (upd H s.heap.objs.size (.lst ys)) {s with heap:=s.heap.push {cls:= .type "list",data:= .seq a6.toArray},toks:=t'}:=
 I.laid (λ_ _ q=>wo _ q) (ww _) ⟨hz,a6,0,a,q5 _ rfl⟩
def Inv.fresh(I:Inv X pins σ H s):H s.heap.objs.size=none:=I.hok.fresh (ww _)
theorem Inv.lstM(I:Inv X pins σ H s)(a:H l=some (.lst xs)):xs.length<=sizeLine/\∃(a6:List Value) (n:Nat),zL xs a6/\xs.length=a6.length/\s.heap.get? l=some {cls:= .type "list",data:= .seq a6.toArray n}:=by
 obtain⟨z,a6,n,r,e⟩:=I.hok l _ a;exact⟨z,a6,n,r,r.length,e⟩
theorem zbv(h:n<=sizeLine):Builtin.List.listTooLong n=false:=by
 unfold Builtin.List.listTooLong;exact wH (by lia)
end
def z9m:V->List V->Hp->VK->Prop:=λx vs H Q=>∃l xs y,x= .ref l/\vs= [y]/\H l=some (.lst xs)/\xs.length < sizeLine/\Q .non (upd H l (.lst (xs ++ [y])))
theorem zad:MtM X "list.append" z9m:=by
 intro pins s σ H x vs v us Q I d c h;obtain⟨l,xs,y,rfl,rfl,a,hz,q⟩:=h;cases d;obtain⟨u,rfl,b⟩:=c.one;obtain⟨z,a6,n,r,hl,e⟩:=I.lstM a;refine call_meets F.slot_list_append ⟨_,e,rfl⟩ F.entry_list_append (F.args_list_append_2 _ _) (PySem.list_append l a6.toArray n u (by rw [wz];lia)) ⟨e,?_⟩;refine⟨.non,_,I.lset (its':=a6 ++ [u]) a e (by simp) (r.append (.cons b .nil)) ?_,rfl,q⟩;rw [wg,wS]
 lia
def zcX:V->List V->Hp->VK->Prop:=λx vs H Q=>∃l b xs zs,x= .ref l/\vs= [.ref b]/\H l=some (.lst xs)/\H b=some (.lst zs)/\xs.length + zs.length<=sizeLine/\Q .non (upd H l (.lst (xs ++ zs)))
theorem z5x:MtM X "list.extend" zcX:=by
 intro pins s σ H x vs v us Q I p j h;obtain⟨l,b,xs,zs,rfl,rfl,c,o,hz,q⟩:=h;cases p;obtain⟨u,rfl,i⟩:=j.one;cases i;obtain⟨z,a6,n,r,hl,e⟩:=I.lstM c;obtain⟨y,a,f,r2,w,t⟩:=I.lstM o;have hsz:a6.toArray.size + a.toArray.size<=sizeLine:=by rw [wz,wz];lia
 have d:¬(!a6.toArray.isEmpty && Builtin.List.listTooLong (a6.toArray.size + a.toArray.size))=true:=by
  rw [zbv hsz,Bool.and_false];exact wO
 refine call_meets F.slot_list_extend ⟨_,e,rfl⟩ F.entry_list_extend (F.args_list_extend_2 _ _)
  (AutoSeq1.list_extend_list_list_0 l a6.toArray n b a.toArray f d (by rw [wz];lia) (by lia)) ⟨e,t,?_⟩
 refine⟨.non,_,I.lset (its':=a6 ++ a) c e (by simp) (r.append r2) ?_,rfl,q⟩;rw [wg]
 lia
def zfP:V->List V->Hp->VK->Prop:=λx vs H Q=>∃l xs y,x= .ref l/\vs= []/\H l=some (.lst xs)/\xs[xs.length - 1]? =some y/\Q y (upd H l (.lst xs.dropLast))
theorem z4e:MtM X "list.pop" zfP:=by
 intro pins s σ H x vs v us Q I o i h;obtain⟨l,xs,y,rfl,rfl,a,c,q⟩:=h;cases o;have f:=i.zero;subst f;obtain⟨z,a6,n,r,hl,e⟩:=I.lstM a;obtain⟨u,j,d⟩:=r.get c;have b:a6.toArray[a6.toArray.size - 1]? =some u:=by
  show a6.toArray[a6.length - 1]? =some u
  rw [<-Array.getElem?_toList,<-hl];exact j
 refine call_meets F.slot_list_pop ⟨_,e,rfl⟩ F.entry_list_pop (F.args_list_pop_1 _) (MeetsSeq.list_pop_last l a6.toArray n u b (by rw [wz];lia)) ⟨e,?_⟩;refine⟨y,_,I.lset (its':=a6.dropLast) a e ?_ r.dropLast ?_,d,q⟩
 ·show a6.toArray.eraseIdxIfInBounds (a6.toArray.size - 1)=a6.dropLast.toArray
  rw [wz,List.eraseIdxIfInBounds_toArray,z8l]
 ·rw [List.length_dropLast]
  lia
def zfM:R2:=λx y H Q=>∃l b xs zs,x= .ref l/\y= .ref b/\H l=some (.lst xs)/\H b=some (.lst zs)/\xs.length + zs.length<=sizeLine/\∀p,H p=none->Q (.ref p) (upd H p (.lst (xs ++ zs)))
theorem kC:OpR X (binaryOp .Add) zfM:=by
 intro pins s σ H x y v u Q I j f h;obtain⟨l,b,xs,zs,rfl,rfl,d,i,hz,q⟩:=h;cases j;cases f;obtain⟨z,a6,n,r,hl,e⟩:=I.lstM d;obtain⟨w,a,t,r2,p,o⟩:=I.lstM i;refine PySem.P.add_list e o ?_ (by rw [wz,wz];lia);have c:a6.toArray ++ a.toArray=(a6 ++ a).toArray:=by simp
 rw [c];exact⟨.ref _,_,I.lnew (t':=s.toks) (r.append r2) (by rw [wg];lia),rfl,q _ I.fresh⟩
variable{o:Option V}
section
variable{κ:Type}[DecidableEq κ]
noncomputable def jV(kvs:List (κ×V))(k:κ):Option V:=(kvs.find? λkv=>decide (kv.1=k)).map (·.2)
noncomputable def putK(kvs:List (κ×V))(k:κ)(v:V):List (κ×V):=
 if(kvs.any λkv=>decide (kv.1=k))=true then kvs.map (λkv=>if kv.1=k then(kv.1,v)else kv)else kvs ++ [(k,v)]
variable{r:List (κ×V)}
theorem yx{p:κ×V}{k:κ}(e:p.1=k):jV (p :: r) k=some p.2:=by simp [jV,w0I,e]
theorem yA{p:κ×V}{k:κ}(e:¬p.1=k):jV (p :: r) k=jV r k:=by simp [jV,w0I,e]
theorem z07(k:κ):∀kvs:List (κ×V),(kvs.any λkv=>decide (kv.1=k))=(jV kvs k).isSome
 | []=>rfl
 | p :: r=>by
  rw [w1t];by_cases e:p.1=k
  ·simp only [yx e,wL e,Bool.true_or,Option.isSome_some]
  ·rw [yA e,wH e,Bool.false_or];exact z07 k r
theorem z6M(k j:κ)(y:V):∀kvs:List (κ×V),jV (kvs.map λkv=>if kv.1=k then(kv.1,y)else kv) j=(jV kvs j).map λx=>if j=k then y else x
 | []=>rfl
 | p :: r=>by
  have a:=z6M k j y r;rw [qC];by_cases h:p.1=k
  ·rw [wY h];by_cases e:p.1=j
   ·rw [yx (p:=(p.1,y)) e,yx e,Option.map_some,wY (e.symm.trans h)]
   ·rw [yA (p:=(p.1,y)) e,yA e,a]
  ·rw [wM h];by_cases e:p.1=j
   ·rw [yx (p:=p) e,yx e,Option.map_some,wM (λz=>h (e.trans z))]
   ·rw [yA (p:=p) e,yA e,a]
theorem z5v(k j:κ)(y:V):∀kvs:List (κ×V),jV kvs k=none->jV (kvs ++ [(k,y)]) j=if j=k then some y else jV kvs j
 | [],_=>by
  by_cases e:k=j
  ·rw [wY e.symm];exact yx (p:=(k,y)) e
  ·rw [wM (λz=>e z.symm)];exact yA (p:=(k,y)) e
 | p :: r,hn=>by
  rw [List.cons_append];have a:¬p.1=k:=λz=>by rw [yx z]at hn;cases hn
  rw [yA a]at hn;have b:=z5v k j y r hn;by_cases e:p.1=j
  ·rw [yx e,yx e,wM (λz=>a (e.trans z))]
  ·rw [yA e,yA e,b]
theorem z4m(kvs:List (κ×V))(k j:κ)(y:V):jV (putK kvs k y) j=if j=k then some y else jV kvs j:=by
 unfold putK;by_cases a:(kvs.any λkv=>decide (kv.1=k))=true
 ·rw [wY a,z6M];rw [z07]at a;by_cases e:j=k
  ·obtain⟨x,b⟩:=Option.isSome_iff_exists.mp a;rw [wY e,e,b,Option.map_some,wY rfl]
  ·rw [wM e];cases jV kvs j with
   | none=>rfl
   | some x=>rw [Option.map_some,wM e]
 ·rw [wM a];refine z5v k j y kvs ?_;rw [z07]at a;cases q:jV kvs k with
  | none=>rfl
  | some x=>rw [q]at a;exact(a rfl).elim
theorem z0I(kvs:List (κ×V))(k:κ)(v:V):(putK kvs k v).length<=kvs.length + 1:=by
 unfold putK;split
 ·rw [w9];lia
 ·rw [wg,wN,Qo];lia
variable{kvs:List (κ×V)}
theorem z7C{k:κ}(v:V)(h:jV kvs k=none):putK kvs k v=kvs ++ [(k,v)]:=by
 unfold putK;rw [z07,h];exact wM (by decide)
theorem z1z.isSome_eq{u:Option Value}(r:z1z o u):o.isSome=u.isSome:=by
 cases o with
 | none=>cases u with
  | none=>rfl
  | some _=>exact(show False from r).elim
 | some _=>cases u with
  | none=>exact(show False from r).elim
  | some _=>rfl
theorem z1z.getD{u:Option Value}{d:V}{d':Value}(r:z1z o u)(a:RelV d d'):RelV (o.getD d) (u.getD d'):=by
 cases o with
 | none=>cases u with
  | none=>exact a
  | some _=>exact(show False from r).elim
 | some _=>cases u with
  | none=>exact(show False from r).elim
  | some _=>exact r
variable{vs:List (κ×Value)}
theorem KV.val(r:KV kvs vs)(k:κ):z1z (jV kvs k) (valueAt vs k):=by
 unfold KV at r
 induction r with
 | nil=>exact w0m
 | @cons p q ps qs h t c=>
  obtain⟨h1,h2⟩:=h;by_cases e:p.1=k
  ·have a:q.1=k:=h1.symm.trans e;have b:valueAt (q :: qs) k=some q.2:=by simp [valueAt,w0I,a]
   rw [yx e,b];exact h2
  ·have a:¬q.1=k:=λz=>e (h1.trans z)
   have b:valueAt (q :: qs) k=valueAt qs k:=by simp [valueAt,w0I,a]
   rw [yA e,b];exact c
theorem KV.any(r:KV kvs vs)(k:κ):(kvs.any λkv=>decide (kv.1=k))=vs.any λkv=>decide (kv.1=k):=by
 unfold KV at r
 induction r with
 | nil=>rfl
 | cons h t a=>rw [w1t,w1t,a,h.1]
theorem KV.repl(r:KV kvs vs)(k:κ)(a:RelV y u):
  KV (kvs.map λkv=>if kv.1=k then(kv.1,y)else kv) (vs.map λkv=>if kv.1=k then(kv.1,u)else kv):=by
 unfold KV at r ⊢
 induction r with
 | nil=>exact .nil
 | @cons p q ps qs h t b=>
  rw [qC,qC];refine .cons ?_ b;obtain⟨h1,h2⟩:=h;by_cases e:p.1=k
  ·rw [wY e,wY (h1.symm.trans e)];exact⟨h1,a⟩
  ·rw [wM e,wM (λz=>e (h1.trans z))];exact⟨h1,h2⟩
theorem KV.put(r:KV kvs vs)(k:κ)(a:RelV y u):KV (putK kvs k y) (stored vs k u):=by
 unfold putK stored;rw [r.any k];by_cases e:(vs.any λkv=>decide (kv.1=k))=true
 ·rw [wY e,wY e];exact r.repl k a
 ·rw [wM e,wM e];exact Paired.snoc r ⟨rfl,a⟩
theorem KV.keys(r:KV kvs vs):kvs.map (·.1)=vs.map (·.1):=by
 unfold KV at r
 induction r with
 | nil=>rfl
 | cons h t a=>rw [qC,qC,a,h.1]
theorem KV.length(r:KV kvs vs):kvs.length=vs.length:=Paired.length r
end
variable{P:Program}{w:World}
theorem z7s{k:Key}(r:RelV (kV k) u):(jw P w).is k u=true:=by
 cases k with
 | inl i=>obtain⟨t,e⟩:=(show∃t,u=Value.int i t from r);subst e;exact z7t P w i t
 | inr x=>obtain⟨t,e⟩:=(show∃t,u=Value.str x t from r);subst e;exact z7J P w x t
theorem z5s{P:Program}{w:World}:∀{ks:List Key} {us:List Value},zL (ks.map kV) us->ItemsAre (jw P w) ks us
 | [],_,r=>by rw [w1q]at r;cases r;exact .nil
 | k :: ks,_,r=>by
  rw [qC]at r;cases r with
  | cons h t=>exact .cons (z7s h) (z5s t)
abbrev KT(H:Hp):List (List Key×V)->List (List Key×Addr×Value)->Prop:=Paired λp q=>p.1=q.1/\H q.2.1=some (.tup (p.1.map kV))/\RelV p.2 q.2.2
variable{xs:List (List Key×Addr×Value)}{kvs:List (List Key×V)}
theorem KT.val(r:KT H kvs xs)(k:List Key):z1z (jV kvs k) ((atKey xs k).map (·.2)):=by
 induction r with
 | nil=>exact w0m
 | @cons p q ps qs h t c=>
  obtain⟨h1,_,h2⟩:=h;by_cases e:p.1=k
  ·have a:q.1=k:=h1.symm.trans e;have b:atKey (q :: qs) k=some q.2:=by simp [atKey,w0I,a]
   rw [yx e,b];exact h2
  ·have a:¬q.1=k:=λz=>e (h1.trans z)
   have b:atKey (q :: qs) k=atKey qs k:=by simp [atKey,w0I,a]
   rw [yA e,b];exact c
theorem KT.repl(r:KT H kvs xs)(k:List Key)(a:RelV y u):
  KT H (kvs.map λkv=>if kv.1=k then(kv.1,y)else kv) (xs.map (putAt k u)):=by
 induction r with
 | nil=>exact .nil
 | @cons p q ps qs h t b=>
  rw [qC,qC];refine .cons ?_ b;obtain⟨h1,h2,c⟩:=h;unfold putAt;by_cases e:p.1=k
  ·rw [wY e,wY (h1.symm.trans e)];exact⟨h1,h2,a⟩
  ·rw [wM e,wM (λz=>e (h1.trans z))];exact⟨h1,h2,c⟩
theorem KT.put(r:KT H kvs xs)(k:List Key){b:Addr}(c:H b=some (.tup (k.map kV)))(a:RelV y u):
  KT H (putK kvs k y) (storedH xs k b u):=by
 have e:(kvs.any λkv=>decide (kv.1=k))=(atKey xs k).isSome:=by
  rw [z07,(r.val k).isSome_eq,Option.isSome_map]
 unfold putK storedH;rw [e];by_cases q:(atKey xs k).isSome=true
 ·rw [wY q,wY q];exact r.repl k a
 ·rw [wM q,wM q];exact Paired.snoc r ⟨rfl,c,a⟩
variable{H':Hp}
def KT.keeps(r:KT H kvs xs)(ht:∀b ys,H b=some (.tup ys)->H' b=some (.tup ys)):KT H' kvs xs:=
 Paired.mapP r λ_ _ z=>⟨z.1,ht _ _ z.2.1,z.2.2⟩
variable{a:Addr}
section
variable{h:Heap}
def zdB{u:HO}(ok:HOk P w H h)(e:Rd H a u):jt P w H h a u:=e.ok ok
def z6N{kvs:List (Key×V)}(ok:HOk P w H h)(e:Rd H a (.dK kvs)):kvs.length<=sizeLine/\(a == sysModules)=false/\∃vs,KV kvs vs/\h.DictOf (jw P w) a vs:=
 show jt P w H h a (.dK kvs)from zdB ok e
def zaR{kvs:List (Key×V)}(ok:HOk P w H h)(e:H a=some (.dK kvs)):kvs.length<=sizeLine/\(a == sysModules)=false/\∃vs,KV kvs vs/\h.DictOf (jw P w) a vs:=z6N ok (.inl e)
theorem z5Z{ks:List Key}(ok:HOk P w H h)(e:H a=some (.tup (ks.map kV))):(tupleKind (jw P w)).is h ks a:=by
 obtain⟨_,a6,r,o,h1,h2,n,b⟩:=(show jt P w H h a (.tup (ks.map kV))from ok a _ e);exact⟨o,a6.toArray,n,h1,h2,b,by simpa using z5s r⟩
theorem z7i(ok:HOk P w H h)(e:Rd H a (.dT kvs)):kvs.length<=sizeLine/\(a == sysModules)=false/\
  ∃xs,KT H kvs xs/\h.DictOfH (tupleKind (jw P w)) a xs:=by
 obtain⟨z,y,xs,r,o,es,ep,h1,h2,c,d,f⟩:=(show jt P w H h a (.dT kvs)from zdB ok e);refine⟨z,y,xs,r,o,es,ep,h1,h2,c,d,λx hx=> ?_,f⟩;have all:∀{l:List (List Key×V)} {m:List (List Key×Addr×Value)},KT H l m->∀x∈m,(tupleKind (jw P w)).is h x.1 x.2.1:=by
  intro l m q
  induction q with
  | nil=>intro x hx;exact nomatch hx
  | @cons p q ps qs hq t b=>
   intro x hx;rcases wG.mp hx with e | hx
   ·subst e;exact z5Z ok (by rw [<-hq.1];exact hq.2.1)
   ·exact b x hx
 exact all r x hx
def zeL(ok:HOk P w H h)(e:H a=some (.dT kvs)):kvs.length<=sizeLine/\(a == sysModules)=false/\
  ∃xs,KT H kvs xs/\h.DictOfH (tupleKind (jw P w)) a xs:=z7i ok (.inl e)
end
def z3G(H:Hp)(a:Addr)(y:V)(r:Option V):Prop:=
 (∃kvs k,Rd H a (.dK kvs)/\y=kV k/\r=jV kvs k)\/∃kvs k b,Rd H a (.dT kvs)/\y= .ref b/\H b=some (.tup (k.map kV))/\r=jV kvs k
def z8o(H:Hp)(a:Addr)(y v:V)(H':Hp):Prop:=
 (∃kvs k,H a=some (.dK kvs)/\y=kV k/\kvs.length < sizeLine/\H'=upd H a (.dK (putK kvs k v)))\/
 ∃kvs k b,H a=some (.dT kvs)/\y= .ref b/\H b=some (.tup (k.map kV))/\kvs.length < sizeLine/\H'=upd H a (.dT (putK kvs k v))
theorem z3G.k{H:Hp}{a:Addr}{kvs:List (Key×V)}{k:Key}(e:H a=some (.dK kvs)):z3G H a (kV k) (jV kvs k):= .inl ⟨kvs,k,.inl e,rfl,rfl⟩
theorem z8o.k{H:Hp}{a:Addr}{kvs:List (Key×V)}{k:Key}{v:V}(e:H a=some (.dK kvs))(hl:kvs.length < sizeLine):z8o H a (kV k) v (upd H a (.dK (putK kvs k v))):= .inl ⟨kvs,k,e,rfl,hl,rfl⟩
variable{E Q:Value->Shared->Prop}{h':Heap}
section
variable{σ:St}{v:V}{r:Value}
theorem Inv.big(I:Inv X pins σ H s):sysModules < s.heap.objs.size:=by
 have h:mainGlobals < s.heap.objs.size:=(I.mod.glob.keeps I.bk).lt;exact Nat.lt_trans (by decide) h
theorem z9N(n:A.units + 1 < cLine)(I:Inv X pins σ H s)(g:z3G H a y (some v))(j:RelV y u)(h:∀c s',Inv X pins σ H s'->RelV v c->Q c s'):
  wpAny (model X.prog X.w) A (getItem (.ref a) u) Q E s:=by
 rcases g with⟨kvs,k,e,ey,l⟩ | ⟨kvs,k,b,e,ey,eb,l⟩
 ·subst ey;obtain⟨z,hd,vs,rel,f⟩:=z6N I.hok e;obtain⟨c,i,d⟩:=z1z.some_of (v:=v) (o:=valueAt vs k) (by rw [l];exact rel.val k);exact wpAny_getItem_of (z7s j) f.mapOf i (h c _ (I.tok _) d)
 ·subst ey;cases (show u=Value.ref b from j);obtain⟨z,hd,xs,rel,f⟩:=z7i I.hok e;obtain⟨c,i,d⟩:=z1z.some_of (v:=v) (o:=(atKey xs k).map (·.2)) (by rw [l];exact rel.val k);obtain⟨p,hp,q⟩:=Option.map_eq_some_iff.mp i;refine wpAny_getItem_heap (tupleKind_room_in1 n) (z5Z I.hok eb) f hp ?_;rw [q];exact h c _ (I.tok _) d
def z5T{c:HO}(I:Inv X pins σ H s)(mu:Mut (H a))(hs:Heap.SameBut a s.heap h')(he:∃q,h'.get? a=some q)(new:jt X.prog X.w (upd H a c) h' a c):
  Inv X pins σ (upd H a c) {s with heap:=h',toks:=t'}:=
 I.write (x:=a) (e:=a) mu (.inl rfl) (λb q d z=>(hs.2 b d).trans z) he new
def zch{kvs:List (Key×V)}{vs:List (Key×Value)}(z:kvs.length<=sizeLine)(hd:(a == sysModules)=false)(rel:KV kvs vs)(b:h'.DictOf (jw P w) a vs):
  jt P w H' h' a (.dK kvs):=⟨z,hd,vs,rel,b⟩
theorem z9I{Q:Unit->Shared->Prop}(t:A.units + 1 < cLine)(I:Inv X pins σ H s)(g:z8o H a y v H')(n:RelV y u)(j:RelV v r)(h:∀s',Inv X pins σ H' s'->Q () s'):
  wpAny (model X.prog X.w) A (setItem (.ref a) u r) Q E s:=by
 rcases g with⟨kvs,k,e,ey,l,eH⟩ | ⟨kvs,k,b,e,ey,eb,l,eH⟩
 ·subst ey eH;obtain⟨z,hd,vs,rel,f⟩:=zaR I.hok e;have hz:vs.length<=sizeLine:=by rw [<-rel.length];exact z
  have hl:(putK kvs k v).length<=sizeLine:=by have:=z0I kvs k v;lia
  refine wpAny_setItem_pairs (hsz:=hz) (z7s n) f λh' d hs=>h _ ?_
  have he:∃q,h'.get? a=some q:=let ⟨q,_,_,hq,_⟩:=d;⟨q,hq⟩
  exact z5T I (by rw [e];exact w0m) hs he (zch hl hd (rel.put k j) d)
 ·subst ey eH;cases (show u=Value.ref b from n);obtain⟨z,hd,xs,rel,f⟩:=zeL I.hok e;have hz:xs.length<=sizeLine:=by rw [<-Paired.length rel];exact z
  have hl:(putK kvs k v).length<=sizeLine:=by have:=z0I kvs k v;lia
  refine wpAny_setItem_heap (hsz:=hz) (tupleKind_room_in1 t) (z5Z I.hok eb) f λh' d hs=>h _ ?_
  obtain⟨q,es,ep,hq,h2,o,p,_,x⟩:=d;refine z5T I (by rw [e];exact w0m) hs ⟨q,hq⟩ ⟨hl,hd,_,(rel.put k eb j).keeps λc ys i=> ?_,q,es,ep,hq,h2,o,p,x⟩;rw [zl (z3E i e (λz=>nomatch z))];exact i
end
def zeT(i:Expr):Prop:=∀a b,subscripted i false a b=operate [a,b] (getItem a b)
theorem zcL{prog:Program}{env:Env}{value slice:Expr}{id:String}
  (hl:typeLookup (.type T) "__getitem__"=pure (some (.builtin id))) (hs:zeT slice)
  (h:wpAny (model prog w) A (eval value env) (λo f=>wpAny (model prog w) A (eval slice env) (λi a=>a.TypeIs o T/\wpAny (model prog w) A (getItem o i) Q E a) E f) E s):
  wpAny (model prog w) A (eval (.Subscript value slice pos) env) Q E s:=by
 refine Subscript_ (qY h (λo f j=>qY j (λi a d=> ?_) λ_ _ x=>x) λ_ _ x=>x);obtain⟨e,d⟩:=d;unfold subscriptTail;refine wy ?_;rw [getitemInPython_of_ne e.not_modules];refine wy (wpAny_specialOf e hl ?_);have fin:wpAny (model prog w) A (subscripted slice false o i) (λr b=>wpAny (model prog w) A (letTemporaryGo value o r >>= λ_=>pure r) Q E b) E a:=by
  rw [hs o i];exact wpAny_operating (qY d (λr b c=>wy (wpAny_letTemporaryGo (wV c))) λ_ _ x=>x)
 first
  | exact wV (wy fin)
  | exact wy (wV (wy fin))
  | exact wy fin
theorem z78{σ:St}(I:Inv X pins σ H s)(g:z3G H a y o):s.TypeIs (.ref a) "dict":=by
 rcases g with⟨kvs,k,e,_,_⟩ | ⟨kvs,k,b,e,_,_,_⟩
 ·obtain⟨_,_,vs,_,c⟩:=z6N I.hok e;exact c.typeIs
 ·obtain⟨_,_,xs,_,c⟩:=z7i I.hok e;exact c.typeIs
def zfl(td ty:TE):TE:=λσ H Q=>td σ H λx H1=>ty σ H1 λy H2=>∃a v,x= .ref a/\z3G H2 a y (some v)/\Q v H2
def zeI(td ty tv:TE):TS:=λD σ H=>tv σ H λv H1=>td σ H1 λx H2=>ty σ H2 λy c=>∃a b,x= .ref a/\z8o c a y v b/\D.nx σ b
section
variable{o i value:Expr}{pos' nS:Pos}{td ty tv:TE}
theorem z9e(p:X.A.units + 1 < cLine)(d:PE X o td)(hi:PE X i ty)(hs:zeT i):PE X (.Subscript o i pos) (zfl td ty):=by
 intro pins s σ H Q I h;refine zcL PySem.F.slot_dict_getitem.lookup hs (thn (d pins s σ H _ I h) ?_);rintro u s1 ⟨x,H1,l,q,c⟩;refine thn (hi pins s1 σ H1 _ l c) ?_;rintro r s2 ⟨y,H2,b,n,a,v,ex,g,j⟩;subst ex;obtain rfl:u=Value.ref a:=q;exact⟨z78 b g,z9N p b g n λt w e f=>⟨v,H2,e,f,j⟩⟩
theorem z6m(q:X.A.units + 1 < cLine)(d:PE X o td)(hi:PE X i ty)(z:PE X value tv)(hs:swapsWith value (some (.Subscript o i pos')) pos.line X.env=pure false):
  PS X (.Assign [.Subscript o i pos'] value pos) (zeI td ty tv):=by
 intro pins s σ H D I h;refine wpAny_Assign_Subscript (thn (z pins s σ H _ I h) ?_) hs;rintro r s1 ⟨v,H1,n,f,b⟩;refine thn (d pins s1 σ H1 _ n b) ?_;rintro u s2 ⟨x,H2,B,w,l⟩;refine thn (hi pins s2 σ H2 _ B l) ?_;rintro E F ⟨y,C,e,p,a,t,ex,g,j⟩;subst ex;obtain rfl:u=Value.ref a:=w;exact z9I q e g p f λG c=>⟨σ,t,c,j⟩
end
def zaH(h:Heap)(a:sysModules < h.objs.size):jt P w H (h.push {cls:= .type "dict",data:= .dict #[]}) h.objs.size (.dK []):=
 ⟨qQ _,w0h.mpr (w1r (wW a)),[],.nil,Heap.DictOf.new h⟩
def zew:TE:=λ_ H Q=>∀p,H p=none->Q (.ref p) (upd H p (.dK []))
def z2W:PE X (.Dict [] [] pos) zew:=λpins s σ H Q I h=>
 wpAny_Dict_empty ⟨.ref s.heap.objs.size,_,I.laid (a:=s.heap.objs.size) (o:= .dK []) (t':=s.toks) (λ_ _ q=>wo _ q) (ww _) (zaH s.heap I.big),rfl,h _ (I.hok.fresh (ww _))⟩
structure M1(X:Cx)(o:Expr)(m:Str)(apos:Pos)(e:Expr)(ae:Pos):Prop where
 base:attributeBase o m X.env (eval o X.env)=eval o X.env
 few:((backTo ae (starEach [e] X.env)).all (λx=> !x.1) && (backToKw ae (keywordEach [] X.env)).all (λx=>x.1.isSome)
  && decide (([e]:List Expr).length + ([]:List Keyword).length + (if([]:List Keyword).isEmpty then 0 else 1) < 30))=true
 line:(apos.endLine == ae.line)=true
 trees:backTo ae (starEach [e] X.env)= [(false,eval e X.env)]
structure M2(X:Cx)(o:Expr)(m:Str)(apos:Pos)(e f:Expr)(ae:Pos):Prop where
 base:attributeBase o m X.env (eval o X.env)=eval o X.env
 few:((backTo ae (starEach [e,f] X.env)).all (λx=> !x.1) && (backToKw ae (keywordEach [] X.env)).all (λx=>x.1.isSome)
  && decide (([e,f]:List Expr).length + ([]:List Keyword).length + (if([]:List Keyword).isEmpty then 0 else 1) < 30))=true
 line:(apos.endLine == ae.line)=true
 trees:backTo ae (starEach [e,f] X.env)= [(false,eval e X.env),(false,eval f X.env)]
def IsD(H:Hp)(a:Addr):Prop:=(∃kvs,Rd H a (.dK kvs))\/∃kvs,Rd H a (.dT kvs)
theorem zbe{σ:St}(I:Inv X pins σ H s)(d:IsD H a):
  s.TypeIs (.ref a) "dict"/\(∀b,Value.ref a= .ref b->∃c,s.heap.get? b=some c/\c.dict=none)/\(a == sysModules)=false:=by
 rcases d with⟨kvs,e⟩ | ⟨kvs,e⟩
 ·obtain⟨_,hd,vs,_,f⟩:=z6N I.hok e;refine⟨f.typeIs,λb q=> ?_,hd⟩;cases q;obtain⟨c,_,_,h1,h2,_⟩:=f;exact⟨c,h1,h2.2.1⟩
 ·obtain⟨_,hd,xs,_,f⟩:=z7i I.hok e;refine⟨f.typeIs,λb q=> ?_,hd⟩;cases q;obtain⟨c,_,_,h1,h2,_⟩:=f;exact⟨c,h1,h2.2.1⟩
section
variable{σ:St}{d:V}{r:Value}
theorem zeF(n:A.units + 1 < cLine)(I:Inv X pins σ H s)(g:z3G H a y o)(f:RelV y u)(i:RelV d r)(h:∀j s',Inv X pins σ H s'->RelV (o.getD d) j->Q j s'):
  wpAny (model X.prog X.w) A (call (.builtin "dict.get") [.ref a,u,r]) Q E s:=by
 rcases g with⟨kvs,k,e,ey,l⟩ | ⟨kvs,k,b,e,ey,eb,l⟩
 ·subst ey;obtain⟨z,hd,vs,rel,c⟩:=z6N I.hok e;refine call_meetsIn PySem.F.slot_dict_get c.typeIs PySem.F.entry_dict_get (PySem.F.args_dict_get_3 _ _ _) (meets_dict_get_default (jw X.prog X.w) a (z7s f) hd r) ⟨_,c.mapOf,h _ _ (I.tok _) ?_⟩;rw [l];exact(rel.val k).getD i
 ·subst ey;cases (show u=Value.ref b from f);obtain⟨z,hd,xs,rel,c⟩:=z7i I.hok e;refine call_meetsIn PySem.F.slot_dict_get c.typeIs PySem.F.entry_dict_get (PySem.F.args_dict_get_3 _ _ _) (meetsH_dict_get_default (tupleKind (jw X.prog X.w)) a b hd r) ⟨tupleKind_room_in1 n,k,xs,z5Z I.hok eb,c,h _ _ (I.tok _) ?_⟩;rw [l];exact(rel.val k).getD i
end
def zdF(td ty tx:TE):TE:=λσ H Q=>td σ H λx H1=>∃a,x= .ref a/\IsD H1 a/\ty σ H1 λy H2=>tx σ H2 λz b=>∃o,z3G b a y o/\Q (o.getD z) b
section
variable{o f:Expr}{apos ae:Pos}{td ty tx:TE}
theorem z48(D:X.A.units + 1 < cLine)(l:PE X o td)(he:PE X e ty)(q:PE X f tx)(m:M2 X o "get" apos e f ae):PE X (.Call (.Attribute o "get" apos) [e,f] [] ae) (zdF td ty tx):=by
 intro pins s σ H Q I h;refine wpAny_Call_method m.base m.few m.line PySem.F.plainAttrs_dict PySem.F.slot_dict_get PySem.F.type_dict_get (thn (l pins s σ H _ I h) ?_);rintro u s1 ⟨x,H1,b,E,a,ex,d,i⟩;subst ex;obtain rfl:u=Value.ref a:=E;obtain⟨C,r,_⟩:=zbe b d;refine⟨C,r,?_⟩;rw [m.trees];refine w0U rfl (Calls.evalArgs_plain (Qj (thn (he pins s1 σ H1 _ b i) λK s2 ⟨y,H2,J,B,w⟩=>
  Qj (thn (q pins s2 σ H2 _ J w) λO N ⟨z,c,n,G,L,g,t⟩=>w0e ?_))))
 exact zeF D n g B G λM P j p=>⟨_,c,j,p,t⟩
end
end L2
namespace Att
open PySem PySem.W PySem.Calls PyProof.Rows
variable{P:Params}{h:Heap}
theorem z3Q:∀(ns:List Int) (vs:List Value),WellAll P h vs (ns.map WData.int)->IntsAre vs ns:=by
 intro ns
 induction ns with
 | nil=>
  intro vs w;rw [w1q]at w;cases w;exact .nil
 | cons n ns c=>
  intro vs w;rw [qC]at w;cases w with
  | cons a b=>
   cases a;exact .cons _ _ (c _ b)
variable{l:OpenLaw}{n:Nat}
theorem zam(hn:l.most=some n){args:List WData}{vals:List Value}
  (e:l.row.toRowW.claim.pre args=true) (p:WellAll P h vals args):
  ∃a vs ns,vals= [Value.ref a]/\args= [WData.list (ns.map WData.int)]/\h.get? a=some {cls:= .type "list",data:= .seq vs.toArray}/\IntsAre vs ns/\ns.length<=n:=by
 have f:WShape.hasAll [] args [.list .int]=true:=(pre_splitW e).1;have hc:l.pre.holds [] {args:=args}=true:=(pre_splitW e).2;obtain⟨d,r,rfl,h1,h2⟩:=hasAllW_cons f;obtain rfl:=hasAllW_nil h2;obtain⟨xs,rfl,j⟩:=hasW_list h1;obtain⟨ns,rfl⟩:=items_int j;have hlen:ns.length<=n:=by
  unfold OpenLaw.pre at hc;have b:(WTm.not (.lt (.lit (.int (n:Int))) (.len (.arg 0)))).holds [] {args:= [.list (ns.map .int)]}=true:=by
   have b:=(holds_andW hc).1;rw [hn]at b;exact b
  have c:=condW_of b (w_not (w_lt w_lit (w_len_list (w_arg rfl))));rw [w9]at c;refine Nat.le_of_not_lt λq=> ?_
  have q':(n:Int) < ((ns.length:Nat):Int):=by lia
  first
   | (rw [wL q']at c;exact absurd c (by decide))
   | (simp at c;lia)
 cases p with
 | cons w1 w2=>
  cases w2;cases w1 with
  | list i o=>exact⟨_,_,ns,rfl,rfl,i,z3Q ns _ o,hlen⟩
theorem zao(l:OpenLaw)(args:List WData):l.row.toRowW.claim.post args (.bool true) args=true:=
 postW_of (r:=l.row.toRowW) (X:=(true == true))
  (show WShape.has [] (.bool true) .bool=true by first | rfl | decide | simp [WShape.has,WShape.arms,WShape.armsAll])
  (show(WTm.eq .res (.lit (.bool true))).value [] {args:=args,res:=some (.bool true),after:=args}=some (.bool (true == true))from w_eq_bool (w_res rfl) w_lit) rfl
theorem attach_call{q:Program}{loose:List Str}{e:(Str->Option Value)->Heap->Prop}{h:World->Heap->Prop}{d:DefRec}
  (hn:l.most=some n) (A:d.params.defaults= [])
  (call:∀(w:World) (s₀ b:Shared) (mg mb:Str->Option Value) (c:Addr) (o:Obj) (pm cd aS:Value) (a:Addr) (vs:List Value) (ns:List Int),
   Ground q loose [] e w s₀ mg mb b.heap->h w b.heap->
   b.heap.get? c=some o->o.data= .func (docDef d.name d.params d.body d.scope pm cd aS)->b.heap.CodeRec cd d.name->mg d.name=some (.ref c)->
   b.heap.get? a=some {cls:= .type "list",data:= .seq vs.toArray}->IntsAre vs ns->ns.length<=n->b.gens= #[]->
   codeAny (model l.prog w) callerA (.call (.ref c) ⟨[.ref a],[]⟩) (λr s'=>r= .ok (.ret (.bool true))/\OldK b.heap s'.heap/\s'.os=b.os/\AllBare s'.gens) b):
  WalkO q loose e h l.row.toRowW d [] (λf vs=>PySem.call f vs):=by
 intro w s₀ b mg mb G Y c o pm cd aS x kV j hd s i B z args vals F u D E y H;obtain rfl:x= .none:=Dflts.none i A;obtain rfl:kV= .none:=Dflts.noKw i;obtain⟨a,vs,ns,rfl,rfl,C,hints,hlen⟩:=zam hn u y;refine enter_call (w0r (call w s₀ b mg mb c o pm cd aS a vs ns G Y j (fd_plain hd) s B C hints hlen z) λr s' hq=> ?_);obtain⟨rfl,h2,p,t⟩:=hq;exact⟨.inl ⟨.bool true,.bool true,[],rfl,λ_=>rfl,.bool true,zao l _,λ_=>⟨List.Pairwise.nil,λ_ hm=>(nomatch hm)⟩⟩,h2,p,t⟩
end Att
namespace L2
open PySem PySem.Spec PyProof.Rows
def z5m:∀{vs:List Value} {ns:List Int},IntsAre vs ns->zL (ns.map V.int) vs
 | _,_,.nil=> .nil
 | _,_,.cons n t h=> .cons ⟨t,rfl⟩ (z5m h)
noncomputable def z0q(s:Stmt):Arguments:=match s with
 | .FunctionDef _ a _ _ _ _ _ _ _ _=>a
 | _=>{posonlyargs:= [],args:= [],vararg:=none,kwonlyargs:= [],kw_defaults:= [],kwarg:=none,defaults:= []}
noncomputable def jO(s:Stmt):List Stmt:=match s with
 | .FunctionDef _ _ b _ _ _ _ _ _ _=>b
 | _=> []
noncomputable def zi(s:Stmt):Scope:=match s with
 | .FunctionDef _ _ _ _ _ _ sc _ _ _=>sc
 | _=>{kind:= .function,names:= [],isGenerator:=false,isCoroutine:=false}
abbrev CX0:CXT:=λ_ _ _ _ _ _=>False
abbrev E0:XK:=λ_ _ _=>False
variable{X:Cx}
def z31:z1h CX0 X E0:=λ_ _ _ _ _ _ _ h=>h.elim
structure Fun(K:W.Frag)(x qual:Str)(st:Stmt)(f:Addr)(fd:FuncData):Prop where
 ex:∃(oc:Value) (od:Option Addr) (kV aS pm:Value) (an:Option Addr) (ac ct:Value) (cC:Array (Option Value)),
  fd=PySem.W.fnOf x qual (z0q st) (jO st) (zi st) .none kV aS pm an ac ct/\K.lookup f=some ⟨oc,od,.func fd,cC⟩/\PySem.W.codeIn K ac qual=true
 kp:PySem.W.keepIn K (.ref f)=true
variable{x qual:Str}{st:Stmt}{f:Addr}{fd:FuncData}
section
variable{P:Program}{w:World}{K:W.Frag}{mg:Str->Option Value}{base:Heap}{ps:List Str}
theorem Fun.ok{N:List Str}{k:Nat}{sp:Sp}(F:Fun K x qual st f fd)(S:FnScope N ps (zi st))(len:∀vs H Q E,sp vs H Q E->vs.length=ps.length)
  (c:∀(ac:Value) (A:Around) (outer:List Env) (s:Shared) (H:Hp) (vs:List V) (Q:VK) (E:XK),Room k (A.deeper (envOfC qual (zi st) s.heap.objs.size f ac))->sp vs H Q E->
   ∃t,PSs (z36 CX0 P w K mg base N qual (zi st) f ac A outer s H E).nox (jO st) t/\t {nx:=λ_ H'=>Q .non H',rt:=Q} (start N vs) H):FnOk P w K mg base CX0 (k + 1) f fd ps sp:=by
 obtain⟨oc,od,kV,aS,pm,an,ac,ct,cC,rfl,d,b⟩:=F.ex;refine zdC d b S len λA outer s H vs Q E hr a=> ?_
 obtain⟨t,h,q⟩:=c ac A outer s H vs Q E hr a;exact⟨t,h.nox,q⟩
theorem Fun.binds(F:Fun K x qual st f fd)
  (h:∀(kV aS pm:Value) (an:Option Addr) (ac ct:Value) (us:List Value),us.length=ps.length->bindArgs (PySem.W.fnOf x qual (z0q st) (jO st) (zi st) .none kV aS pm an ac ct) ⟨us,[]⟩=pure (ps.zip us)):Binds K fd ps []:=by
 obtain⟨oc,od,kV,aS,pm,an,ac,ct,cC,rfl,a,b⟩:=F.ex;exact .all (h kV aS pm an ac ct)
def z6c{oc:Value}{od an:Option Addr}{cC:Array (Option Value)}{kV aS pm ac ct:Value}(l:K.lookup f=some ⟨oc,od,.func (PySem.W.fnOf x qual (z0q st) (jO st) (zi st) .none kV aS pm an ac ct),cC⟩)
  (c:PySem.W.codeIn K ac qual=true) (k:PySem.W.keepIn K (.ref f)=true):Fun K x qual st f (PySem.W.fnOf x qual (z0q st) (jO st) (zi st) .none kV aS pm an ac ct):=⟨⟨oc,od,kV,aS,pm,an,ac,ct,cC,rfl,l,c⟩,k⟩
end
theorem z3w{A:Around}{k:Nat}(hr:Room k A):A.units + 1 < cLine:=Nat.lt_of_le_of_lt (Nat.add_le_add_left (by decide:1<=64) _) hr.units
theorem pv(i:Nat){pos:Pos}(b:X.N[i]? =some x:=by rfl)(c:Vis X.env.scope x:=by first | exact w02 rfl | exact QI (w02 rfl) | exact QI (QI rfl))(hd:(x == ("__debug__":Str))=false:=by decide)
  (a:(x == ("__classdict__":Str))=false:=by decide):PE X (.Name x pos) (z7c i):=z2s b c hd a
variable{A B:Prop}
theorem z83(h:B):if false=true then A else B:=by
 rw [wM wO];exact h
theorem z8t(h:A):if true=true then A else B:=by
 rw [wY rfl];exact h
theorem yT{c:Prop} [Decidable c] (h1:c->A)(h2:¬c->B):if c then A else B:=by
 by_cases h:c
 ·rw [wY h];exact h1 h
 ·rw [wM h];exact h2 h
def zw(H H':Hp):Prop:=∀b o,H b=some o->H' b=some o
def zw.refl(H:Hp):zw H H:=λ_ _ h=>h
variable{H:Hp}
theorem zw.trans{H1 H2:Hp}(a:zw H H1)(b:zw H1 H2):zw H H2:=λc o h=>b c o (a c o h)
theorem zw.free{H':Hp}(e:zw H H'){l:Addr}(h:H' l=Option.none):H l=Option.none:=by
 cases q:H l with
 | none=>rfl
 | some o=>
  rw [e l o q]at h;cases h
theorem zw.seq{K:W.Frag}{H':Hp}{a:Addr}{xs:List V}(e:zw H H')(h:SqL K H a xs):SqL K H' a xs:=by
 rcases h with(h | ⟨o,h⟩) | h
 ·exact .inl (.inl (e _ _ h))
 ·exact .inl (.inr ⟨o,e _ _ h⟩)
 ·exact .inr h
section
variable{κ:Type}[DecidableEq κ]{kvs:List (κ×V)}
theorem zaV{k:κ}(h:jV kvs k=none):¬k∈kvs.map (·.1):=by
 intro m;obtain⟨p,hp,e⟩:=qe.mp m;have q:(kvs.any λkv=>decide (kv.1=k))=true:=QF.mpr ⟨p,hp,wL e⟩;rw [z07,h]at q;exact absurd q (by simp)
theorem zd5{k:κ}{v:V}(h:jV kvs k=some v):k∈kvs.map (·.1):=by
 have q:(kvs.any λkv=>decide (kv.1=k))=true:=by
  rw [z07,h]
  all_goals rfl
 obtain⟨p,hp,e⟩:=QF.mp q;exact qe.mpr ⟨p,hp,qA e⟩
theorem z6l:∀{l:List κ} {k:κ},l.Nodup->¬k∈l->(l ++ [k]).Nodup
 | [],k,_,_=>by simp
 | a :: r,k,h,b=>by
  obtain⟨h1,h2⟩:=w00.mp h
  show(a :: (r ++ [k])).Nodup
  refine w00.mpr ⟨λm=> ?_,z6l h2 λm=>b (wG.mpr (QI m))⟩;rcases wB.mp m with q | q
  ·exact h1 q
  ·exact b (wG.mpr (w02 (wx.mp q).symm))
end
end L2
set_option Elab.async false
set_option linter.all false
set_option maxRecDepth 100000

namespace L2
open PySem PySem.Spec PyProof.Rows
variable{H:Hp}
theorem zB{p:Addr}(h:H p=none)(o:HO):zw H (upd H p o):=λb u q=>by rw [zl (zq q h)];exact q
variable{l:Addr}{o:HO}
theorem zw.put{H':Hp}(e:zw H H')(h:H l=none):zw H (upd H' l o):=λb u q=>by
 rw [zl (zq q h)];exact e b u q
def Kp(l:Addr)(H H':Hp):Prop:=∀b o,b≠l->H b=some o->H' b=some o
def Kp.refl:Kp l H H:=λ_ _ _ h=>h
theorem Kp.trans{H1 H2:Hp}(a:Kp l H H1)(b:Kp l H1 H2):Kp l H H2:=λc o n h=>b c o n (a c o n h)
def zw.kp{H':Hp}(e:zw H H'):Kp l H H':=λb o _ h=>e b o h
theorem z2n:Kp l H (upd H l o):=λb u n h=>by rw [zl n];exact h
variable{n:Nat}
theorem jb(h:n<=1000000):n<=sizeLine:=by
 have:sizeLine=16777216:=Qi
 lia
theorem zE(h:n<=1000000):n < sizeLine:=by
 have:sizeLine=16777216:=Qi
 lia
variable{X:Cx}
theorem zX:kj X (.builtin "isinstance") (λxs H Q=>∃x n t b,xs= [x,.ty n]/\TyOf X.K H x t/\PySem.W.kitOne X.K t (.type n)=some b/\Q (.bl b) H):=by
 intro pins s σ H xs us Q I r h;obtain⟨x,n,t,b,rfl,ty,e,q⟩:=h;obtain⟨u,a,rfl,d,c⟩:=vals2 r;cases (show a=Value.type n from c);exact z9E I d ty e λtk=>⟨.bl b,H,I.tok _,rfl,q⟩
variable{K:W.Frag}
theorem jK{n:String}:PySem.W.kitOne K (.type n) (.type n)=some true:=by
 unfold PySem.W.kitOne;rw [wY (w05 _)]
theorem z1W:PySem.W.kitOne K (.type "int") (.type "str")=some false:=by kernel_rfl
theorem z50:PySem.W.kitOne K (.type "str") (.type "tuple")=some false:=by kernel_rfl
theorem z57:PySem.W.kitOne K (.type "int") (.type "tuple")=some false:=by kernel_rfl
theorem z66:PySem.W.kitOne K (.type "int") (.type "bool")=some false:=by kernel_rfl
def zbG(K:W.Frag):V->List V->Hp->VK->Prop:=λx vs H Q=>∃l xs y j,x= .ref l/\vs= [y]/\SqL K H l xs/\yW y=true/\xs.all yW=true/\
 (∃z,xs[j]? =some z/\eqV z y=true)/\(∀m z,m < j->xs[m]? =some z->eqV z y=false)/\Q (.int ((j:Nat):Int)) H
theorem yi:MtM X "list.index" (zbG X.K):=by
 intro pins s σ H x vs v us Q I E A h;obtain⟨l,xs,y,j,rfl,rfl,hq,f,fs,⟨z,hz,i⟩,C,q⟩:=h;cases E;obtain⟨u,rfl,p⟩:=A.one;obtain⟨a6,r,pl,hsz⟩:=I.list hq;obtain⟨⟨cls,t,data,sl⟩,e,hc,n,hd⟩:=pl.isList;simp only at hc hd;subst hc hd;have hl:=r.length;have hn:=z2v;have J:j < xs.length:=(we.mp hz).1;have D:j < a6.length:=by lia
 refine call_meets qB ⟨_,e,rfl⟩ PySem.F.entry_list_index (PySem.F.args_list_index_2 _ _)
  (SeqAt.list_indexAt l a6.toArray n t sl u (eqU y) j (by rw [wz];exact D) (by lia) ?_ ?_) ⟨e,λw G=>z15 p f r fs w (by simpa using G),⟨.int ((j:Nat):Int),H,I.tok _,⟨_,rfl⟩,q⟩⟩
 ·obtain⟨w,a,b⟩:=r.get hz;have c:a6[j]=w:=(we.mp a).2
  show eqU y a6[j]=true
  rw [c,z6j b (qN.mp fs z (qL hz))];exact i
 ·intro m hm B;have L:m < a6.length:=by rw [wz]at hm;exact hm
  have o:m < xs.length:=by lia
  have d:xs[m]? =some xs[m]:=wa o;obtain⟨w,a,b⟩:=r.get d;have c:a6[m]=w:=(we.mp a).2
  show eqU y a6[m]=false
  rw [c,z6j b (qN.mp fs _ (qL d))];exact C m _ B d
def ze7(K:W.Frag):R2:=λx y H Q=>∃a b xs,x= .ref a/\y= .ref b/\SqL K H a xs/\SqL K H b []/\Q (.bl xs.isEmpty) H
theorem z7B(p:X.A.units + 1 < cLine):OpR X (compareOp .Eq) (ze7 X.K):=by
 intro pins s σ H x y v u Q I n l h;have d:X.A.units < cLine:=by lia
 obtain⟨a,b,xs,rfl,rfl,ha,i,q⟩:=h;cases n;cases l;obtain⟨a6,r,pl,hz⟩:=I.list ha;obtain⟨f,r2,c,_⟩:=I.list i;have o:f= []:=r2.zero;subst o;cases r with
 | nil=>exact SeqAt.eq_listAt (e:=λ_=>true) pl.isList c.isList rfl d (λj h1 _=>absurd h1 (by simp)) ⟨.bl true,H,I,by simp [RelV],q⟩
 | cons r1 r2=>exact SeqAt.eq_list_lengthsAt pl.isList c.isList (by simp) d ⟨.bl false,H,I,rfl,q⟩
variable{c:Bool}
theorem ifT{A B:Prop}(h:c=true)(a:A):if c=true then A else B:=by rw [wY h];exact a
theorem ifF{A B:Prop}(h:c=false)(b:B):if c=true then A else B:=by rw [wM (by rw [h];exact wO)];exact b
theorem qbl{Q:VK}{a b:Bool}(e:a=b)(q:Q (.bl b) H):Q (.bl a) H:=by rw [e];exact q
theorem z2Q{i j:Int}:decide (V.int i=V.int j)=decide (i=j):=by
 rw [QY];simp
theorem zY{i j:Str}:decide (V.str i=V.str j)=decide (i=j):=by
 rw [QY];simp
section
variable{a b:Expr}{ta tb:TE}{pos:Pos}{tA eP:TT}
def zfp(ta tb:TE):TE:=λσ H Q=>ta σ H λx H1=>∃c,x= .bl c/\∃d,(tb σ H1 λy H2=>y= .bl d/\H2=H1)/\Q (.bl (c && d)) H1
theorem zdj(ha:PE X a ta)(l:PE X b tb):PE X (.BoolOp .And [a,b] pos) (zfp ta tb):=by
 intro pins s σ H Q I h;refine BoolOp_and (thn (ha pins s σ H _ I h) ?_);rintro v s1 ⟨x,H1,i,r1,f⟩;obtain⟨c,rfl,d,j,f⟩:=f;cases r1;refine w0c ?_;cases c with
 | true=>
  refine BoolOp_one (thn (l pins s1 σ H1 _ i j) ?_);rintro v2 s2 ⟨y,H2,o,r2,e,n⟩;subst e n;exact⟨.bl d,H2,o,r2,by rw [w1u]at f;exact f⟩
 | false=>exact⟨.bl false,H1,i,rfl,by rw [w19]at f;exact f⟩
def zfq(tA tB:TT):TT:=λσ H Q=>tA σ H λc H1=>∃d,(tB σ H1 λd' H2=>d'=d/\H2=H1)/\Q (c && d) H1
def zfz(tA tB:TT):TT:=λσ H Q=>tA σ H λc H1=>∃d,(tB σ H1 λd' H2=>d'=d/\H2=H1)/\Q (c || d) H1
theorem z2P(ha:PT X a tA)(n:PT X b eP):PT X (.BoolOp .And [a,b] pos) (zfq tA eP):=by
 intro pins s σ H Q I h;refine isTrue_and (thn (ha pins s σ H _ I h) ?_);rintro c s1 ⟨H1,i,d,l,f⟩;cases c with
 | true=>
  refine isTrue_and (thn (n pins s1 σ H1 _ i l) ?_);rintro o s2 ⟨H2,j,e,p⟩;subst e p;rw [w1u]at f;cases o with
  | true=>exact isTrue_and_nil ⟨H2,j,f⟩
  | false=>exact⟨H2,j,f⟩
 | false=>exact⟨H1,i,by rw [w19]at f;exact f⟩
theorem z1k(ha:PT X a tA)(n:PT X b eP):PT X (.BoolOp .Or [a,b] pos) (zfz tA eP):=by
 intro pins s σ H Q I h;refine isTrue_or (thn (ha pins s σ H _ I h) ?_);rintro c s1 ⟨H1,i,d,l,f⟩;cases c with
 | false=>
  refine isTrue_or (thn (n pins s1 σ H1 _ i l) ?_);rintro o s2 ⟨H2,j,e,p⟩;subst e p;rw [Bool.false_or]at f;cases o with
  | false=>exact isTrue_or_nil ⟨H2,j,f⟩
  | true=>exact⟨H2,j,f⟩
 | true=>exact⟨H1,i,by rw [Bool.true_or]at f;exact f⟩
def zaC(c:TT)(t u:TS):TS:=λD σ H=>∃J:St->Hp->Prop,(c σ H λb H1=>if b=true then t {D with nx:=J} σ H1 else u {D with nx:=J} σ H1)/\∀σ' H',J σ' H'->D.nx σ' H'
theorem kH{c:Expr}{a b:List Stmt}{tc:TT}{t u:TS}(hc:PT X c tc)(ha:PSs X a t)(n:PSs X b u):PS X (.If c a b pos) (zaC tc t u):=by
 intro pins s σ H D I h;obtain⟨J,h,l⟩:=h;have fin:∀(f:Flow) (s':Shared),SP X pins {D with nx:=J} f s'->SP X pins D f s':=λf s' q=>by
  cases f with
  | next=>obtain⟨σ',H',j,q⟩:=q;exact⟨σ',H',j,l _ _ q⟩
  | ret v=>exact q
  | brk=>exact q
  | cont=>exact q
 refine wpAny_If (thn (hc pins s σ H _ I h) ?_);rintro d s1 ⟨H1,i,e⟩;cases d with
 | true=>exact thn (ha pins s1 σ H1 _ i e) fin
 | false=>exact thn (n pins s1 σ H1 _ i e) fin
end
def z0P{c:TT}{tb:TS}{D:Ends}{σ:St}(W:Nat->St->Hp->Prop)(m:Nat)(h0:W m σ H)
  (hs:∀m σ H,W m σ H->c σ H λb H1=>if b=true then∃N:St->Hp->Prop,(∀σ' H',N σ' H'->∃a,a < m/\W a σ' H')/\tb {D with nx:=N,ct:=N,bk:=D.nx} σ H1 else D.nx σ H1):z1q c tb D σ H:=
 ⟨W,⟨m,h0⟩,hs⟩
structure Kn(P:Program)(w:World)(K:W.Frag)(mg:Str->Option Value)(base:Heap)(k:Nat)(x:Str)(ps:List Str)(sp:Sp):Prop where
 ex:∃(f:Addr) (fd:FuncData),FnOk P w K mg base CX0 k f fd ps sp/\mg x=some (.ref f)/\PySem.W.keepIn K (.ref f)=true/\Binds K fd ps []
theorem z1M{k:Nat}{x:Str}{ps:List Str}{sp:Sp}{e:Expr}{es:List Expr}{t:TA}{p pos:Pos}(C:Kn X.prog X.w X.K X.mg X.base k x ps sp)(hr:Room k X.A)(d:Gl X x)(ha:PA X (e :: es) t)
  (c:(x == ("__debug__":Str))=false:=by decide) (he:starEach (e :: es) X.env=(false,eval e X.env) :: starEach es X.env:=by rfl) (h:(backTo pos (starEach es X.env)).any (·.1)=false:=by rfl):
  PE X (.Call (.Name x p) (e :: es) [] pos) (zcf sp [] E0 t):=by
 obtain⟨f,fd,F,hm,a,b⟩:=C.ex;exact zcx F hr d hm a b .nil z31 ha c he h
variable{α:Type}
theorem z2T(gs:List α)(x:α):(gs ++ [x])[(gs ++ [x]).length - 1]? =some x:=by simp
def z6a{l:List α}(h:l≠ []):∃gs x,l=gs ++ [x]:=⟨l.dropLast,l.getLast h,(List.dropLast_concat_getLast h).symm⟩
variable{x:α}{r:List α}
def zH:atI (x :: r) 0=some x:=zW (j:=0) rfl
def j8{y:α}:atI (x :: y :: r) 1=some y:=zW (j:=1) rfl
def jz{y z:α}:atI (x :: y :: z :: r) 2=some z:=zW (j:=2) rfl
theorem z8L{xs:List α}{i:Int}{v:α}(h0:0<=i)(h:xs[i.toNat]? =some v):atI xs i=some v:=by
 have e:i=((i.toNat:Nat):Int):=by lia
 rw [e];exact zW h
theorem zT(ss:List Str):(ss.map V.str).all yW=true:=by
 rw [qN];intro x a;obtain⟨s,_,rfl⟩:=qe.mp a
 rfl
theorem jh{ss:List Str}{s:Str}(h:s∈ss):(∃z,(ss.map V.str)[ss.idxOf s]? =some z/\eqV z (.str s)=true)/\∀m z,m < ss.idxOf s->(ss.map V.str)[m]? =some z->eqV z (.str s)=false:=by
 have a:ss.idxOf s < ss.length:=qz.mpr h;refine⟨⟨.str s,?_,?_⟩,λm z hm hz=> ?_⟩
 ·rw [wF,wa a,List.getElem_idxOf a]
  rfl
 ·show(s == s)=true
  exact w05 s
 ·have b:m < ss.length:=by lia
  rw [wF,wa b]at hz;cases hz
  show(ss[m] == s)=false
  have h2:m < ss.findIdx (· == s):=hm;exact List.not_of_lt_findIdx h2
end L2

namespace L2
open PySem PySem.Spec PyProof.Rows
variable{A:Around}{R:Result->Shared->Prop}{s:Shared}{bu iter:Expr}{bh:List Expr}{scope:Scope}{pos:Pos}{env:Env}
theorem z65{prog:Program}{w:World}{target:Expr}{it acc:Value}(I:Nat->Shared->Prop)
  (turn:∀n s,I n s->wpAny (model prog w) A (pyNext it) (λr q=>match r with
   | none=>R (.ok .next) q
   | some v=>wpAny (model prog w) A (letOwnedTupleGo target it v) (λ_ b=>wpAny (model prog w) A (assign target env v) (λ_ d=>
     wpAny (model prog w) A (forIn bh true λc r=>if r=true then do let ok<-isTrue c env (eval c env);pure (ForInStep.yield ok)else pure (ForInStep.yield r)) (λok a=>
      if ok=true then wpAny (model prog w) A (eval bu env) (λx j=>
       wpAny (model prog w) A (call (.builtin "list.append") [acc,x]) (λ_ i=>∃m,m < n/\I m i) (notedBy (model prog w) A env λe s'=>R (.error e) s') j) (notedBy (model prog w) A env λe s'=>R (.error e) s') a
      else∃m,m < n/\I m a) (notedBy (model prog w) A env λe s'=>R (.error e) s') d) (notedBy (model prog w) A env λe s'=>R (.error e) s') b) (notedBy (model prog w) A env λe s'=>R (.error e) s') q) (notedBy (model prog w) A env λe s'=>R (.error e) s') s)
  (n:Nat) (h:I n s):
  codeAny (model prog w) A (.compLoop (.ListComp bu [⟨target,iter,bh,0⟩] scope pos) 0 it acc env) R s:=by
 refine codeAny_loop rfl I (λn s u=> ?_) n h
 show wpAny _ A ((compTurn (.ListComp bu [⟨target,iter,bh,0⟩] scope pos) 0 it acc env).onRaise (λx=>do noteFrame x env;theTreesLotGoes x)) _ _ s
 refine wpAny_noted ?_;rw [compTurn_list];refine wy (wpAny_standAt (wy (qY (turn n s u) (λr q t=> ?_) λ_ _ h'=>h')));cases r with
 | none=>exact wV t
 | some v=>
  refine wy (qY t (λ_ b l=> ?_) λ_ _ h'=>h');refine wy (qY l (λ_ d y=>wy (qY y (λok a f=> ?_) λ_ _ h'=>h')) λ_ _ h'=>h');cases ok with
  | false=>exact wV ⟨rfl,f⟩
  | true=>
   exact wy (wy (qY f (λx j o=>wy (qY o (λ_ i p=>wV (wV ⟨rfl,p⟩)) λ_ _ h'=>h')) λ_ _ h'=>h'))
noncomputable def yK(env:Env):List (Str×NameKind)->List (Str×Addr)->List (Str×Addr)
 | [],acc=>acc
 | (n,k) :: r,acc=>yK env r (if k == .free then(n,(env.cells.lookup n).getD 0) :: acc else acc)
theorem z8N{env:Env}(f:Str×NameKind->List (Str×Addr)->Sem (ForInStep (List (Str×Addr))))
  (i:∀name kind cells,f (name,kind) cells=if kind == .free then(do let a<-cellOf env name;pure (.yield ((name,a) :: cells)))else pure (.yield cells)):
  ∀(names:List (Str×NameKind)) (acc:List (Str×Addr)),(∀y∈names,y.2= .free->∃c,env.cells.lookup y.1=some c)->forIn names acc f=(pure (yK env names acc):Sem (List (Str×Addr)))
 | [],acc,_=>by rw [List.forIn_nil];rfl
 | (n,k) :: r,acc,h=>by
  rw [List.forIn_cons,i];have d:=λacc=>z8N f i r acc λy j=>h y (wX _ j)
  unfold yK;cases hk:k == NameKind.free with
  | true=>
   obtain⟨c,hc⟩:=h (n,k) qy (Qt.mp hk);have e:cellOf env n=(pure c:Sem Addr):=by
    unfold cellOf;have b:env.cells.lookup n=some c:=hc;rw [b]
   have b:env.cells.lookup n=some c:=hc;simp only [w1K,e,pure_bind,b,Option.getD_some];exact d _
  | false=>
   simp only [w03,w1d,pure_bind];exact d _
theorem kY(h:∀y∈scope.names,y.2= .free->∃c,env.cells.lookup y.1=some c):closureFor scope env=pure (yK env scope.names []):=by
 simp only [closureFor];rw [z8N (env:=env) _ (λname kind cells=>by cases hk:kind == NameKind.free <;> simp [hk]) scope.names [] h]
 rfl
theorem z20{env:Env}:∀(names:List (Str×NameKind)) (acc:List (Str×Addr)),(∀y∈names,y.2= .free->∃c,env.cells.lookup y.1=some c)->(∀y c,acc.lookup y=some c->env.cells.lookup y=some c)->
  ∀y c,(yK env names acc).lookup y=some c->env.cells.lookup y=some c
 | [],_,_,ha=>ha
 | (n,k) :: r,acc,h,ha=>by
  unfold yK;refine z20 r _ (λy a=>h y (wX _ a)) λy c e=> ?_
  cases hk:k == NameKind.free with
  | true=>
   rw [hk,wY rfl,qF]at e;obtain⟨c',hc⟩:=h (n,k) qy (Qt.mp hk);have b:env.cells.lookup n=some c':=hc;cases a:y == n with
   | true=>
    rw [a]at e;rw [b]at e;cases e;rw [Qt.mp a];exact b
   | false=>
    rw [a]at e;exact ha y c e
  | false=>
   rw [hk,wM wO]at e;exact ha y c e
theorem z2E{env:Env}:∀(names:List (Str×NameKind)) (acc:List (Str×Addr)) (y:Str),((y,NameKind.free)∈names\/∃c,acc.lookup y=some c)->∃c,(yK env names acc).lookup y=some c
 | [],_,y,h=>by
  rcases h with h | h
  ·cases h
  ·exact h
 | (n,k) :: r,acc,y,h=>by
  unfold yK;refine z2E r _ y ?_;rcases h with h | ⟨c,h⟩
  ·rcases wG.mp h with e | h
   ·cases e;refine .inr ?_;simp [qF]
   ·exact .inl h
  ·refine .inr ?_;by_cases hk:(k == NameKind.free)=true
   ·rw [wY hk,qF];cases y == n with
    | true=>exact⟨_,rfl⟩
    | false=>exact⟨c,h⟩
   ·rw [wM hk];exact⟨c,h⟩
theorem z43:∀(names:List (Str×NameKind)) (h:Heap) (acc:List (Str×Addr)) (y:Str) (c:Addr),(cellsFrom h.objs.size names acc).lookup y=some c->
  ((pushCells h names).IsCell c none/\h.objs.size<=c/\(y,NameKind.cell)∈names)\/acc.lookup y=some c
 | [],_,_,_,_,e=> .inr e
 | (n,k) :: r,h,acc,y,c,e=>by
  unfold cellsFrom at e;unfold pushCells;by_cases hk:(k == NameKind.cell)=true
  ·rw [wY hk]at e ⊢;have d:(cellsFrom (h.push {cls:= .type "cell",data:= .cell none}).objs.size r ((n,h.objs.size) :: acc)).lookup y=some c:=by rw [Qc];exact e
   rcases z43 r (h.push {cls:= .type "cell",data:= .cell none}) ((n,h.objs.size) :: acc) y c d with⟨a1,a2,a3⟩ | a
   ·rw [Qc]at a2;exact .inl ⟨a1,by lia,wX _ a3⟩
   ·rw [qF]at a;cases hy:y == n with
    | true=>
     rw [hy]at a;cases a;refine .inl ⟨Heap.IsCell.keeps ⟨_,q5 _ rfl,rfl⟩ λb o q=>w0J r _ b o q,ww _,?_⟩;rw [Qt.mp hy,Qt.mp hk];exact qy
    | false=>
     rw [hy]at a;exact .inr a
  ·rw [wM hk]at e ⊢;rcases z43 r h acc y c e with⟨a1,a2,a3⟩ | a
   ·exact .inl ⟨a1,a2,wX _ a3⟩
   ·exact .inr a
theorem z6n:∀(names:List (Str×NameKind)) (n:Nat) (acc:List (Str×Addr)) (y:Str),(y,NameKind.cell)∉names->(cellsFrom n names acc).lookup y=acc.lookup y
 | [],_,_,_,_=>rfl
 | (m,k) :: r,n,acc,y,h=>by
  unfold cellsFrom;by_cases hk:(k == NameKind.cell)=true
  ·rw [wY hk,z6n r (n + 1) _ y λz=>h (wX _ z),qF];have:(y == m)=false:=w0h.mpr λz=>h (by rw [z,Qt.mp hk];exact qy)
   rw [this]
  ·rw [wM hk];exact z6n r n acc y λz=>h (wX _ z)
theorem z8x:∀(names:List (Str×NameKind)) (n:Nat) (acc:List (Str×Addr)) (y:Str),((y,NameKind.cell)∈names\/∃c,acc.lookup y=some c)->∃c,(cellsFrom n names acc).lookup y=some c
 | [],_,_,_,h=>by
  rcases h with h | h
  ·cases h
  ·exact h
 | (m,k) :: r,n,acc,y,h=>by
  unfold cellsFrom;by_cases hk:(k == NameKind.cell)=true
  ·rw [wY hk];refine z8x r (n + 1) _ y ?_;rcases h with h | ⟨c,h⟩
   ·rcases wG.mp h with e | h
    ·cases e;exact .inr ⟨n,by simp [qF]⟩
    ·exact .inl h
   ·refine .inr ?_;rw [qF];cases y == m with
    | true=>exact⟨_,rfl⟩
    | false=>exact⟨c,h⟩
  ·rw [wM hk];refine z8x r n acc y ?_;rcases h with h | h
   ·rcases wG.mp h with e | h
    ·cases e;exact absurd rfl hk
    ·exact .inl h
   ·exact .inr h
theorem z8n:∀(names:List (Str×NameKind)) (n:Nat) (acc:List (Str×Addr)),(∀y c,acc.lookup y=some c->c < n)->(∀y z c,acc.lookup y=some c->acc.lookup z=some c->y=z)->
  ∀y z c,(cellsFrom n names acc).lookup y=some c->(cellsFrom n names acc).lookup z=some c->y=z
 | [],_,_,_,hi=>hi
 | (m,k) :: r,n,acc,d,hi=>by
  unfold cellsFrom;by_cases hk:(k == NameKind.cell)=true
  ·rw [wY hk];refine z8n r (n + 1) _ (λy c e=> ?_) λy z c b a=> ?_
   ·rw [qF]at e;cases hy:y == m with
    | true=>rw [hy]at e;cases e;exact w0n n
    | false=>rw [hy]at e;exact Q0 (d y c e)
   ·rw [qF]at b a;cases hy:y == m with
    | true=>
     rw [hy]at b;cases b;cases hz:z == m with
     | true=>rw [Qt.mp hy,Qt.mp hz]
     | false=>rw [hz]at a;exact absurd (d z n a) (QU _)
    | false=>
     rw [hy]at b;cases hz:z == m with
     | true=>rw [hz]at a;cases a;exact absurd (d y n b) (QU _)
     | false=>rw [hz]at a;exact hi y z c b a
  ·rw [wM hk];exact z8n r n acc d hi
theorem z3x{M:Model}{E:Value->Shared->Prop}{globals:Addr}{cl:List (Str×Addr)}{qual:Str}{Q:Env->Shared->Prop}
  (a:Q {scope:=scope,locals:=s.heap.objs.size,globals:=globals,cells:=cellsFrom (s.heap.push {cls:= .type "dict",data:= .dict #[]}).objs.size scope.names cl,qual:=qual,func:=none,code:=env.code,frame:=env.frame,builtins:=env.builtins}
   {s with heap:=pushCells (s.heap.push {cls:= .type "dict",data:= .dict #[]}) scope.names}):
  wpAny M A (newFunctionEnv scope globals cl [] qual none .none (some env)) Q E s:=by
 simp only [newFunctionEnv,Option.isSome_some,w1K];refine wy (wpAny_alloc ?_);refine wy (wpAny_layCells _ (λname kind cells=>by cases md:kind == NameKind.cell <;> simp [md]) _ _ _ _ ?_);rw [List.forIn_nil];exact wy (wV (wV a))
noncomputable abbrev j6(X:Cx)(scope:Scope)(a:List Str)(C:Addr)(cells:List (Str×Addr))(s₀:Shared)(H₀:Hp)(ex:List Addr)(pins:List (Addr×Obj)):Cx:=
 {prog:=X.prog,w:=X.w,K:=X.K,mg:=X.mg,base:=X.base,A:=X.A,N:=a,s₀:=s₀,H₀:=H₀,env:=compEnvC scope cells C X.env,outer:=X.stack,stack:=X.stack,ex:=ex,fn:=λy=>decide ((y,NameKind.cell)∈scope.names),calm:=X.calm,pn:=X.pn ++ pins,xe:=λ_ _=>False}
structure CompSc(X:Cx)(scope:Scope)(x:Str)(fr:List Str)(ix:List Nat):Prop where
 kind:scope.kind= .function
 names:∀y∈scope.names,y.2= .local->scope.names.lookup y.1=some .local
 uniq:(scope.names.map (·.1)).Nodup
 xloc:scope.names.lookup x=some .local\/scope.names.lookup x=some .cell
 clo:∀y∈scope.names,y.2= .free->X.env.kindOf y.1=some .cell\/X.env.kindOf y.1=some .free
 free:∀(k:Nat) (y:Str),fr[k]? =some y->∃j,ix[k]? =some j/\X.N[j]? =some y/\scope.names.lookup y=some .free
 nd:(x :: fr).Nodup
 len:fr.length=ix.length
noncomputable def sub(σ:St)(ix:List Nat)(x:Option V):St:=x :: ix.map λj=>(σ[j]?).getD none
def z7f(X:Cx)(bh:List Expr)(t:TT):Prop:=
 ∀(pins:List (Addr×Obj)) (s:Shared) (σ:St) (H:Hp) (Q:Bool->Hp->Prop),Inv X pins σ H s->t σ H Q->
  wpAny (model X.prog X.w) X.A (forIn bh true λc r=>if r=true then do let ok<-isTrue c X.env (eval c X.env);pure (ForInStep.yield ok)else pure (ForInStep.yield r)) (TP X pins σ Q) X.xe s
def z7z:TT:=λ_ H Q=>Q true H
variable{X:Cx}
def jg:z7f X [] z7z:=λ_ _ _ H _ I h=>wpAny_tests_nil ⟨H,I,h⟩
def z29{c:Expr}{t:TT}(h:PT X c t):z7f X [c] t:=λpins s σ H Q I q=>wpAny_tests_one (h pins s σ H Q I q)
theorem yn{env:Env}:∀{names:List (Str×NameKind)} {y:Str} {k:NameKind},names.lookup y=some k->
  (names.map λ(n,k)=>if(k == NameKind.free && env.scope.kind == .function && env.kindOf n == some .cell)then(n,NameKind.cell)else(n,k)).lookup y=some (if(k == NameKind.free && env.scope.kind == .function && env.kindOf y == some .cell)then NameKind.cell else k)
 | [],_,_,h=>by simp at h
 | (n,k') :: r,y,k,h=>by
  rw [qF]at h;rw [qC];cases hy:y == n with
  | true=>
   rw [hy]at h;cases h;have e:y=n:=Qt.mp hy;subst e;by_cases hc:(k' == NameKind.free && env.scope.kind == .function && env.kindOf y == some .cell)=true
   ·simp only [hc,w1K,qF,w05]
   ·simp only [hc,w1d,qF,w05];simp
  | false=>
   rw [hy]at h;have a:=yn (env:=env) (names:=r) h;by_cases hc:(k' == NameKind.free && env.scope.kind == .function && env.kindOf n == some .cell)=true
   ·simp only [hc,w1K,qF,hy];exact a
   ·show List.lookup y ((if(k' == NameKind.free && env.scope.kind == .function && env.kindOf n == some .cell)=true then(n,NameKind.cell)else(n,k')) :: _)=_
    rw [wM hc,qF,hy];exact a
theorem z5F:∀{names:List (Str×NameKind)} {y:Str} {k:NameKind},
  (names.map λ(n,k)=>if(k == NameKind.free && env.scope.kind == .function && env.kindOf n == some .cell)then(n,NameKind.cell)else(n,k)).lookup y=some k->∃k',names.lookup y=some k'/\k=(if(k' == NameKind.free && env.scope.kind == .function && env.kindOf y == some .cell)then NameKind.cell else k')
 | names,y,k,h=>by
  cases e:names.lookup y with
  | some k'=>
   have:=yn (env:=env) e;rw [this]at h;exact⟨k',rfl,(Option.some.inj h).symm⟩
  | none=>
   exfalso
   induction names with
   | nil=>simp at h
   | cons p r a=>
    obtain⟨n,k'⟩:=p;rw [qF]at e;cases hy:y == n with
    | true=>rw [hy]at e;cases e
    | false=>
     rw [hy]at e;refine a ?_ e;rw [qC]at h;by_cases hc:(k' == NameKind.free && env.scope.kind == .function && env.kindOf n == some .cell)=true
     ·simpa only [hc,w1K,qF,hy]using h
     ·simpa [hc,qF,hy]using h
def lookup_mem{α:Type}{l:List (Str×α)}{n:Str}{c:α}(h:l.lookup n=some c):(n,c)∈l:=qT h
theorem z8z:∀(names:List (Str×NameKind)) (n:Nat) (acc:List (Str×Addr)) (y:Str) (c:Addr),(y,NameKind.cell)∈names->(cellsFrom n names acc).lookup y=some c->n<=c
 | [],_,_,_,_,h,_=>by cases h
 | (m,k) :: r,n,acc,y,c,h,e=>by
  unfold cellsFrom at e;by_cases hr:(y,NameKind.cell)∈r
  ·by_cases hk:(k == NameKind.cell)=true
   ·rw [wY hk]at e;exact Nat.le_of_succ_le (z8z r (n + 1) _ y c hr e)
   ·rw [wM hk]at e;exact z8z r n acc y c hr e
  ·rcases wG.mp h with q | q
   ·cases q;rw [wY (w05 _),z6n r (n + 1) _ _ hr,qF,w05]at e;cases e;exact ww _
   ·exact absurd q hr
theorem z5G:∀{names:List (Str×NameKind)} {y:Str} {k k':NameKind},(names.map (·.1)).Nodup->names.lookup y=some k->(y,k')∈names->k=k'
 | [],_,_,_,_,h,_=>by simp at h
 | (n,kk) :: r,y,k,k',hn,h,hm=>by
  rw [qC]at hn;obtain⟨h1,h2⟩:=w00.mp hn;rw [qF]at h;cases hy:y == n with
  | true=>
   rw [hy]at h;cases h;rcases wG.mp hm with e | hm
   ·cases e;rfl
   ·exact absurd (qe.mpr ⟨_,hm,rfl⟩) (by rw [Qt.mp hy];exact h1)
  | false=>
   rw [hy]at h;rcases wG.mp hm with e | hm
   ·cases e;rw [w05]at hy;cases hy
   ·exact z5G h2 h hm
variable{pins:List (Addr×Obj)}{H:Hp}{x:Str}{fr:List Str}{ix:List Nat}{fp:List Addr}
section
variable{σ:St}
noncomputable abbrev jm:Obj:={cls:= .type "list",data:= .seq ([]:List Value).toArray}
noncomputable abbrev z08:Obj:={cls:= .type "dict",data:= .dict #[]}
theorem zaD{σ4:St}{f:Hp}{h:Shared}{cells:List (Str×Addr)}{N:List Str}{C D:Addr}{pl:List (Addr×Obj)}{a6:List Value}{ys:List V}{k:Nat}{h':Heap}(I:Inv X pins σ H s)(L:∀b∈fp,z3P X pins H b)
  (i:Inv (j6 X scope N C cells s H fp pins) pl σ4 f h) (x:s.heap.objs.size<=D) (B:s.heap.objs.size<=C) (y:D≠C) (t:f D=none) (F:h.heap.get? D=some {cls:= .type "list",data:= .seq a6.toArray k}) (r:zL ys a6) (hz:ys.length<=sizeLine)
  (G:Heap.SameBut C h.heap h'):Inv X pins σ (upd f D (.lst ys)) {h with heap:=h'}:=by
 have u:Un (frs X.stack) fp H f s.heap h.heap:=i.base;have ne:∀b o,s.heap.get? b=some o->b≠C/\b≠D:=λb o e=>by
  have:=wI e;exact⟨wW (wJ this B),wW (wJ this x)⟩
 have l:H D=none:=I.hok.fresh x;have p:f C=none:=i.free;have j:∀b,b≠C->h'.get? b=h.heap.get? b:=λb a=>G.2 b a
 have M:Un (frs X.stack) fp H (upd f D (.lst ys)) s.heap h':=by
  refine⟨λb o e n a d=> ?_,λb o e n a d=> ?_,λb o e n d=> ?_,λb o e d=> ?_,λb xs e=> ?_,λb o w e=> ?_,λb ps e=> ?_⟩
  ·rw [j b (ne b o e).1];exact u.keep b o e n a d
  ·rw [j b (ne b o e).1];exact u.slot b o e n a d
  ·rw [zl (ne b o e).2];exact u.free b o e n d
  ·rw [j b (ne b o e).1];exact u.there b o e d
  ·rw [zl (zq e l)];exact u.tups b xs e
  ·rw [zl (zq e l)];exact u.frzs b o w e
  ·rw [zl (zq e l)];exact u.tbls b ps e
 have hok:HOk X.prog X.w (upd f D (.lst ys)) h':=λb o e=>by
  by_cases a:b=D
  ·subst a;rw [zj]at e;cases e;exact⟨hz,a6,k,r,(j b y).trans F⟩
  ·rw [zl a]at e;refine(i.hok b o e).stay (λc v hc q=> ?_) (λc q=> ?_) λc xs q=> ?_
   ·have E:c≠C:=by
     rintro rfl;rcases hc with z | z
     ·rw [<-z,p]at e;cases e
     ·rw [p]at z;cases z
    exact(j c E).trans q
   ·rw [zl (zq q t)];exact q
   ·rw [zl (zq q t)];exact q
 exact I.call' (s':={h with heap:=h'}) (ch:=fp) i.os M hok i.bare λb a=>by
  obtain⟨_,f1,_,A,K,J⟩:=L b a;exact⟨A,f1,K,J⟩
end
def z0h(J:It)(σ:St)(ix:List Nat)(tc:TT)(te:TE)(Q:List V->Hp->Prop)(H1:Hp):Prop:=
 ∃W:Nat->Nat->List V->Hp->Prop,(∃m,W 0 m [] H1)/\∀i m ys H,W i m ys H->ys.length < sizeLine/\
  ((J.stop i H/\Q ys H)\/(J.go i H/\∃(e:V->Hp->Prop) (d:Hp->Prop),(∀y c,e y c->∃a,a < m/\W (i + 1) a (ys ++ [y]) c)/\(∀H2,d H2->∃a,a < m/\W (i + 1) a ys H2)/\
   ∀x H',J.yld i H x H'->tc (sub σ ix (some x)) H' λb H2=>if b=true then te (sub σ ix (some x)) H2 e else d H2))
structure CompScG(X:Cx)(scope:Scope)(xs:List Str)(fr:List Str)(ix:List Nat):Prop where
 kind:scope.kind= .function
 names:∀y∈scope.names,y.2= .local->scope.names.lookup y.1=some .local
 uniq:(scope.names.map (·.1)).Nodup
 clo:∀y∈scope.names,y.2= .free->X.env.kindOf y.1=some .cell\/X.env.kindOf y.1=some .free
 free:∀(k:Nat) (y:Str),fr[k]? =some y->∃j,ix[k]? =some j/\X.N[j]? =some y/\scope.names.lookup y=some .free
 nd:(xs ++ fr).Nodup
 len:fr.length=ix.length
noncomputable def z7n(σ:St)(ix:List Nat)(a:List (Option V)):St:=a ++ ix.map λj=>(σ[j]?).getD none
noncomputable def z6Y(sx:Scope)(NX:List Str)(scope:Scope)(xs fr:List Str)(ix:List Nat):Bool:=
 (scope.kind == .function) && scope.names.all (λy=>y.2 != .local || scope.names.lookup y.1 == some .local) && decide ((scope.names.map (·.1)).Nodup) &&
 scope.names.all (λy=>y.2 != .free || (sx.names.lookup y.1 == some .cell || sx.names.lookup y.1 == some .free)) &&
 decide (fr.length=ix.length) && decide ((xs ++ fr).Nodup) && (fr.zip ix).all λp=>NX[p.2]? == some p.1 && scope.names.lookup p.1 == some .free
variable{xs:List Str}
theorem CompScG.of{sx:Scope}{NX:List Str}(hs:X.env.scope=sx)(i:X.N=NX)(h:z6Y sx NX scope xs fr ix=true):CompScG X scope xs fr ix:=by
 simp only [z6Y,qZ,w0K,Qt,qN,Bool.or_eq_true,bne_iff_ne,ne_eq]at h;obtain⟨⟨⟨⟨⟨⟨h1,h2⟩,f⟩,j⟩,c⟩,l⟩,d⟩:=h;refine⟨h1,λy b a=> ?_,f,λy b a=> ?_,λk y e=> ?_,l,c⟩
 ·rcases h2 y b with q | q
  ·exact absurd a q
  ·exact q
 ·show X.env.scope.names.lookup y.1=_\/X.env.scope.names.lookup y.1=_
  rw [hs];rcases j y b with q | q
  ·exact absurd a q
  ·exact q
 ·have a:k < ix.length:=by rw [<-c];exact(we.mp e).1
  have hz:(fr.zip ix)[k]? =some (y,ix[k]):=by
   rw [List.getElem?_zip_eq_some];exact⟨e,wa a⟩
  obtain⟨a1,a2⟩:=d _ (qL hz);exact⟨ix[k],wa a,by rw [i];exact a1,a2⟩
section
variable{σ:St}
theorem z80(S:CompScG X scope xs fr ix)(I:Inv X pins σ H s)(G:∀b∈fp,z3P X pins H b)(T:∀b∈fp,b < s.heap.objs.size):
  Inv (j6 X scope (xs ++ fr) (s.heap.push jm).objs.size (cellsFrom ((s.heap.push jm).push z08).objs.size scope.names (yK X.env scope.names [])) s H fp pins) [] (z7n σ ix (List.replicate xs.length none)) H
   {s with heap:=pushCells ((s.heap.push jm).push z08) scope.names}:=by
 have O:∀y∈scope.names,y.2= .free->∃c,X.env.cells.lookup y.1=some c:=λy l hk=>I.ok.has y.1 (S.clo y l hk)
 have A:∀y c,(yK X.env scope.names []).lookup y=some c->X.env.cells.lookup y=some c:=z20 scope.names [] O λy c e=>by simp at e
 have F:∀y,(y,NameKind.free)∈scope.names->∃c,(yK X.env scope.names []).lookup y=some c:=λy l=>z2E scope.names [] y (.inl l)
 have M:∀y c,(yK X.env scope.names []).lookup y=some c->c < s.heap.objs.size:=λy c e=>by
  obtain⟨v,q⟩:=I.cell y c (A y c e);exact q.lt
 have x:(s.heap.push jm).objs.size=s.heap.objs.size + 1:=Qc ..;have E:((s.heap.push jm).push z08).objs.size=s.heap.objs.size + 2:=by rw [Qc,x]
 have up:∀b o,s.heap.get? b=some o->(pushCells ((s.heap.push jm).push z08) scope.names).get? b=some o:=λb o e=>w0J _ _ b o (wo _ (wo _ e))
 have D:∀y c,(cellsFrom ((s.heap.push jm).push z08).objs.size scope.names (yK X.env scope.names [])).lookup y=some c->
   ((pushCells ((s.heap.push jm).push z08) scope.names).IsCell c none/\s.heap.objs.size + 2<=c/\(y,NameKind.cell)∈scope.names)\/X.env.cells.lookup y=some c:=λy c e=>by
  rcases z43 scope.names ((s.heap.push jm).push z08) (yK X.env scope.names []) y c e with⟨a1,a2,a3⟩ | a
  ·rw [E]at a2;exact .inl ⟨a1,a2,a3⟩
  ·exact .inr (A y c a)
 have ok:(j6 X scope (xs ++ fr) (s.heap.push jm).objs.size (cellsFrom ((s.heap.push jm).push z08).objs.size scope.names (yK X.env scope.names [])) s H fp pins).Ok:=by
  refine⟨I.ok.mod,S.kind,I.ok.glob,I.ok.blt,?_,?_,?_,?_,I.ok.hd,I.ok.frames,.inl rfl,?_,I.bs,wP I.ok.bsz I.sz,?_,?_,I.stack,I.stkFree⟩
  ·show s.heap.objs.size<=(s.heap.push jm).objs.size
   rw [x]
   lia
  ·exact z8n scope.names _ _ (λy c e=>by rw [E];exact wJ (M y c e) (Nat.le_add_right _ 2)) λy z c t f=>I.ok.inj y z c (A y c t) (A z c f)
  ·intro y l;refine z8x scope.names _ _ y ?_;have fR:(relabel scope X.env).names.lookup y=some .cell\/(relabel scope X.env).names.lookup y=some .free:=l;rcases fR with fR | fR
   ·obtain⟨k',e,h⟩:=z5F fR;by_cases hc:(k' == NameKind.free && X.env.scope.kind == .function && X.env.kindOf y == some .cell)=true
    ·rw [qZ,qZ]at hc;have f:=Qt.mp hc.1.1;subst f;exact .inr (F y (lookup_mem e))
    ·rw [wM hc]at h;subst h;exact .inl (lookup_mem e)
   ·obtain⟨k',e,h⟩:=z5F fR;by_cases hc:(k' == NameKind.free && X.env.scope.kind == .function && X.env.kindOf y == some .cell)=true
    ·rw [wY hc]at h;cases h
    ·rw [wM hc]at h;subst h;exact .inr (F y (lookup_mem e))
  ·intro y c l e;have hm:(y,NameKind.cell)∈scope.names:=qA l;have:=z8z scope.names _ _ y c hm e
   show s.heap.objs.size<=c
   rw [E]at this
   lia
  ·intro b r;have K:=T b r;refine⟨?_,λy c e=> ?_⟩
   ·show b≠(s.heap.push jm).objs.size
    rw [x];exact wW (Q0 K)
   ·rcases D y c e with⟨_,a2,_⟩ | a
    ·exact QC (wJ K (wP (Nat.le_add_right _ 2) a2))
    ·exact(G b r).2.2.2.2.1 y c a
  ·intro b o e r;obtain⟨_,_,_,f3,_⟩:=G b r;rcases f3 with f3 | f3
   ·exact I.ok.noex b o e f3
   ·exact absurd (wJ (wI e) (wP I.ok.bsz f3)) (QU _)
  ·intro b r z;obtain⟨_,f1,f2,_⟩:=G b r;rcases wG.mp (I.stkSub b z)with e | e
   ·exact f1 e
   ·exact f2 e
 refine⟨ok,rfl,I.bare,Un.kept up,⟨_,(Heap.Ns.new (s.heap.push jm) (.type "dict")).keeps (w0J _ _),λi y v t f e3=> ?_⟩,λy c e=> ?_,?_,λy c e=> ?_,λp hp=> ?_,I.hok.kept up,?_⟩
 ·have f:(List.replicate xs.length none ++ ix.map λj=>(σ[j]?).getD none)[i]? =some (some v):=f;have t:(xs ++ fr)[i]? =some y:=t;by_cases bj:i < xs.length
  ·rw [QV (by rw [w0s];exact bj),List.getElem?_replicate,wY bj]at f;cases f
  ·obtain⟨k,rfl⟩:∃k,i=xs.length + k:=⟨i - xs.length,by lia⟩
   have Z:fr[k]? =some y:=by rw [Qw (by lia),Nat.add_sub_cancel_left]at t;exact t
   have L:(ix.map λj=>(σ[j]?).getD none)[k]? =some (some v):=by rw [Qw (by rw [w0s];lia),w0s,Nat.add_sub_cancel_left]at f;exact f
   obtain⟨j,N,R,B⟩:=S.free k y Z;rw [wF,N]at L;have C:(σ[j]?).getD none=some v:=Option.some.inj L;have Y:σ[j]? =some (some v):=by
    cases q:σ[j]? with
    | none=>rw [q]at C;cases C
    | some o=>rw [q]at C;exact Q6 some C
   have hk:=S.clo (y,NameKind.free) (lookup_mem B) rfl;obtain⟨m,hn,hl⟩:=I.loc;obtain⟨u,P,w⟩:=hl j y v R Y (.inr hk);refine⟨u,P,.inr ⟨?_,?_⟩⟩
   ·have q:=yn (env:=X.env) B
    show(relabel scope X.env).names.lookup y=_\/(relabel scope X.env).names.lookup y=_
    rw [show(relabel scope X.env).names.lookup y=_ from q];by_cases hc:(NameKind.free == NameKind.free && X.env.scope.kind == .function && X.env.kindOf y == some .cell)=true
    ·rw [wY hc];exact .inl rfl
    ·rw [wM hc];exact .inr rfl
   ·rcases w with⟨w,_⟩ | ⟨_,c,hc,aA⟩
    ·rcases hk with hk | hk
     ·rw [show X.env.kindOf y=_ from hk]at w;cases w
     ·rw [show X.env.kindOf y=_ from hk]at w;cases w
    ·refine⟨c,?_,aA.keeps up⟩;have U:(y,NameKind.cell)∉scope.names:=λz=>by
      have:=z5G S.uniq B z;cases this
     show(cellsFrom _ scope.names _).lookup y=some c
     rw [z6n scope.names _ _ y U];obtain⟨c',J⟩:=F y (lookup_mem B);have:=A y c' J;rw [hc]at this;cases this;exact J
 ·rcases D y c e with⟨a1,_,_⟩ | a
  ·exact⟨none,a1⟩
  ·obtain⟨v,q⟩:=I.cell y c a;exact⟨v,q.keeps up⟩
 ·show H (s.heap.push jm).objs.size=none
  exact I.hok.fresh (by rw [x];lia)
 ·rcases D y c e with⟨_,a2,_⟩ | a
  ·exact I.hok.fresh (by lia)
  ·exact I.freeC y c a
 ·have a9:p∈X.pn ++ pins:=by simpa using hp
  obtain⟨e,n,ne,nf,d⟩:=I.pin p a9;have Q:=wI e;refine⟨up _ _ e,n,?_,λz=> ?_,d⟩
  ·show p.1≠(s.heap.push jm).objs.size
   rw [x];exact wW (Q0 Q)
  ·rcases wG.mp (I.stkSub p.1 z)with q | q
   ·exact ne q
   ·exact nf q
 ·show(z7n σ ix (List.replicate xs.length none)).length=(xs ++ fr).length
  unfold z7n;rw [wg,w9,wg,S.len,w0s]
end
def z28(J:It)(g:TG)(tc:TT)(te:TE)(Q:List V->Hp->Prop)(σ0:St)(H1:Hp):Prop:=
 ∃(d:St->Prop) (W:Nat->Nat->List V->Hp->Prop),d σ0/\(∃m,W 0 m [] H1)/\∀i m ys σ H,d σ->W i m ys H->ys.length < sizeLine/\
  ((J.stop i H/\Q ys H)\/(J.go i H/\∃(f:V->Hp->Prop) (e:Hp->Prop),(∀y a,f y a->∃c,c < m/\W (i + 1) c (ys ++ [y]) a)/\(∀H2,e H2->∃c,c < m/\W (i + 1) c ys H2)/\
   ∀x H',J.yld i H x H'->g x σ H' λσ2 H2=>d σ2/\tc σ2 H2 λb a=>if b=true then te σ2 a f else e a))
variable{Q:List V->Hp->Prop}{wi:TI}{tc:TT}{te:TE}{J:It}{j:Nat}{y:Str}{py bY:Pos}
section
variable{tg:Expr}{g:TG}
theorem z4v{σ:St}{it:Addr}{tn:Nat->Heap->Prop}(hc:X.calm=true)(S:CompScG X scope xs fr ix)
  (dI:∀C cells s₀ H₀ ex pins,PE (j6 X scope (xs ++ fr) C cells s₀ H₀ ex pins) bu te) (dJ:∀C cells s₀ H₀ ex pins,z7f (j6 X scope (xs ++ fr) C cells s₀ H₀ ex pins) bh tc)
  (fW:∀C cells s₀ H₀ ex pins,PG (j6 X scope (xs ++ fr) C cells s₀ H₀ ex pins) tg g) (I:Inv X pins σ H s) (T:Turn X.prog X.w X.K tg J fp it tn) (st:tn 0 s.heap) (bv:∀b∈fp,z3P X pins H b) (h:z28 J g tc te Q (z7n σ ix (List.replicate xs.length none)) H)
  (hR:∀B ys U,(∃m,B.heap.Ns (s.heap.push jm).objs.size m)->Q ys U->U s.heap.objs.size=none->U (s.heap.push jm).objs.size=none->(∀h',Heap.SameBut (s.heap.push jm).objs.size B.heap h'->Inv X pins σ (upd U s.heap.objs.size (.lst ys)) {B with heap:=h'})->R (.ok .next) B):
  codeAny (model X.prog X.w) X.A (.compLoop (.ListComp bu [⟨tg,iter,bh,0⟩] scope pos) 0 (.ref it) (.ref s.heap.objs.size)
   (compEnvC scope (cellsFrom ((s.heap.push jm).push z08).objs.size scope.names (yK X.env scope.names [])) (s.heap.push jm).objs.size X.env)) R {s with heap:=pushCells ((s.heap.push jm).push z08) scope.names}:=by
 obtain⟨Sh,W,vD,⟨m0,w0⟩,turn⟩:=h;have ag:∀b∈fp,b < s.heap.objs.size:=λb f=>by
  obtain⟨o,e,_⟩:=T.obj 0 _ st b f;exact wI e
 have I0:=z80 S I bv ag;have z1:(s.heap.push jm).objs.size=s.heap.objs.size + 1:=Qc ..;have up:∀b o,s.heap.get? b=some o->(pushCells ((s.heap.push jm).push z08) scope.names).get? b=some o:=λb o e=>w0J _ _ b o (wo _ (wo _ e))
 have sy:(pushCells ((s.heap.push jm).push z08) scope.names).get? s.heap.objs.size=some {cls:= .type "list",data:= .seq ([]:List Value).toArray}:=
  w0J _ _ _ _ (wo _ (q5 _ rfl))
 have aV:∀y∈scope.names,y.2= .free->∃c,X.env.cells.lookup y.1=some c:=λy hy hk=>I.ok.has y.1 (S.clo y hy hk)
 have cD:∀y c,(cellsFrom ((s.heap.push jm).push z08).objs.size scope.names (yK X.env scope.names [])).lookup y=some c->c≠s.heap.objs.size:=λy c e=>by
  rcases z43 scope.names ((s.heap.push jm).push z08) (yK X.env scope.names []) y c e with⟨_,a2,_⟩ | a
  ·rw [Qc,z1]at a2;exact QC (wJ (Q0 (w0n _)) a2)
  ·obtain⟨v,q⟩:=I.cell y c (z20 scope.names [] aV (λy c e=>by simp at e) y c a);exact wW q.lt
 generalize cellsFrom ((s.heap.push jm).push z08).objs.size scope.names (yK X.env scope.names [])=cells at I0 cD ⊢;generalize hCe:(s.heap.push jm).objs.size=C at I0 hR z1 ⊢;generalize hDe:s.heap.objs.size=D at z1 sy cD ag hR ⊢;have mf:D≠C:=by lia
 have j:s.heap.objs.size<=D:=by lia
 have L:s.heap.objs.size<=C:=by lia
 have vE:∀p∈X.pn ++ pins,p.1≠D:=λp hp=>by
  have:=wI (I.pin p hp).1;exact wW (hDe ▸ this)
 have aa:D∉frs X.stack:=λz=>by
  rcases wG.mp (I.stkSub D z)with e | e
  ·have:=I.lt;rw [<-e,hDe]at this;exact QU _ this
  ·exact I.nofs j e
 refine z65 (λn s'=>∃i ys a6 k G H',Inv (j6 X scope (xs ++ fr) C cells s H fp pins) [] G H' s'/\tn i s'.heap/\(∀b∈fp,H' b=none)/\s'.heap.get? D=some {cls:= .type "list",data:= .seq a6.toArray k}/\H' D=none/\zL ys a6/\Sh G/\W i n ys H') ?_ m0
  ⟨0,[],[],0,_,H,I0,T.keep _ _ _ st λb f o e=>up b o e,λb f=>(bv b f).1,sy,I.hok.fresh j,.nil,vD,w0⟩
 rintro n s3 ⟨i,ys,a6,k,G,O,I3,ay,ie,vF,nZ,P,vG,w3⟩;obtain⟨db,dL⟩:=turn i n ys G O vG w3;have hlen:=P.length;have E:D≠(j6 X scope (xs ++ fr) C cells s H fp pins).env.locals:=mf;have N:Inv (j6 X scope (xs ++ fr) C cells s H fp pins) [(D,{cls:= .type "list",data:= .seq a6.toArray k})] G O s3:=I3.pins_of λp hp=>by
  rw [wx.mp hp];exact⟨vF,nZ,E,aa,λv z=>by cases z⟩
 have o0:∀{H':Hp},(∀b∈fp,H' b=none)->∀b∈fp,z3P (j6 X scope (xs ++ fr) C cells s H fp pins) [(D,{cls:= .type "list",data:= .seq a6.toArray k})] H' b:=λ{H'} hn b f=>by
  obtain⟨e1,e2⟩:=I3.ok.exf b f;refine⟨hn b f,e1,I3.ok.exfs b f,.inl f,e2,λp hp=> ?_⟩;rcases wB.mp hp with hp | hp
  ·exact(bv b f).2.2.2.2.2 p hp
  ·rw [wx.mp hp];have:=ag b f;exact QC this
 rcases dL with⟨stop,q⟩ | ⟨go,NY,NN,vH,vI,step⟩
 ·refine thn (T.done (j6 X scope (xs ++ fr) C cells s H fp pins) rfl rfl rfl hc i _ s3 _ O _ N (o0 ie) ay stop) ?_;rintro r B ⟨hr,Y⟩;subst hr;have vJ:=(Y.pin (D,{cls:= .type "list",data:= .seq a6.toArray k}) (wA _ (wx.mpr rfl))).1;obtain⟨m,hn,_⟩:=Y.loc;exact hR B ys O ⟨m,hn⟩ q nZ Y.free λh' sb=>zaD I bv Y j L mf nZ vJ P (w1o db) sb
 ·refine thn (T.item (j6 X scope (xs ++ fr) C cells s H fp pins) rfl rfl rfl hc i _ s3 _ O _ N (o0 ie) ay go) ?_;rintro r B ⟨u,hr,h4⟩;subst hr;refine thn h4 ?_;rintro _ s5 ⟨v,H5,I5,r5,y5,fO,nQ⟩;have af:=I5.pinned (o0 nQ) (T.obj _ _ fO);refine qY (fW C cells s H fp pins _ s5 _ H5 v u _ af r5 (step v H5 y5)) (?_) λ_ _ z=>z.elim
  rintro _ s6 ⟨σ6,H6,I6,sB,q6⟩;refine qY (dJ C cells s H fp pins _ s6 _ H6 _ I6 q6) (?_) λ_ _ z=>z.elim
  rintro b s7 ⟨H7,I7,q7⟩;have sC:∀{t:Hp} {l:Shared} {σ8:St},Inv (j6 X scope (xs ++ fr) C cells s H fp pins) ([(D,{cls:= .type "list",data:= .seq a6.toArray k})] ++ z4C fp s5.heap) σ8 t l->tn (i + 1) l.heap/\(∀b∈fp,t b=none)/\l.heap.get? D=some {cls:= .type "list",data:= .seq a6.toArray k}/\t D=none:=λ{t l σ8} x=>by
   refine⟨T.keep _ _ _ fO λb f o e=>(x.pin (b,o) (wA _ (wA _ (z1l f e)))).1,λb f=> ?_,?_,?_⟩
   ·obtain⟨o,e,d⟩:=T.obj _ _ fO b f;exact(x.pin (b,o) (wA _ (wA _ (z1l f e)))).2.1
   ·exact(x.pin (D,{cls:= .type "list",data:= .seq a6.toArray k}) (wA _ (wZ _ (wx.mpr rfl)))).1
   ·exact(x.pin (D,{cls:= .type "list",data:= .seq a6.toArray k}) (wA _ (wZ _ (wx.mpr rfl)))).2.1
  cases b with
  | false=>
   rw [wM wO]at q7 ⊢;obtain⟨m',hm,w7⟩:=vI _ q7;obtain⟨t1,t2,M,Z⟩:=sC I7;exact⟨m',hm,i + 1,ys,a6,k,σ6,H7,I7.pins_of λp hp=>(by cases hp),t1,t2,M,Z,P,sB,w7⟩
  | true=>
   rw [wY rfl]at q7 ⊢;refine qY (dI C cells s H fp pins _ s7 _ H7 _ I7 q7) (?_) λ_ _ z=>z.elim
   rintro y l ⟨w,t,x,r8,q8⟩;obtain⟨m',hm,w8⟩:=vH _ _ q8;obtain⟨t1,t2,M,Z⟩:=sC x;refine call_meets F.slot_list_append ⟨_,M,rfl⟩ F.entry_list_append (F.args_list_append_2 _ _) (PySem.list_append D a6.toArray k y (by rw [wz];lia)) ⟨M,?_⟩;obtain⟨k9,vK⟩:∃k9,(l.heap.update D (Obj.mapSeq (·.push y))).get? D=some {cls:= .type "list",data:= .seq (a6 ++ [y]).toArray k9}:=⟨_,by
    rw [show(a6 ++ [y]).toArray=a6.toArray.push y by simp];exact PySem.IsL.update M (·.push y)⟩
   have ad:Inv (j6 X scope (xs ++ fr) C cells s H fp pins) [] σ6 t l:=x.pins_of λp hp=>(by cases hp)
   have I9:=Inv.turned (it:=D) (t':=l.toks) (h':=l.heap.update D (Obj.mapSeq (·.push y))) ad (λb o f e=>(Q5 l.heap _ (w1r f)).trans e) Z E (.inr j) cD (λp hp=>vE p (by simpa using hp));exact⟨m',hm,i + 1,ys ++ [w],a6 ++ [y],k9,σ6,t,I9,T.keep _ _ _ t1 λb f o e=>(Q5 l.heap _ (QC (ag b f))).trans e,t2,vK,Z,P.append (.cons r8 .nil),sB,w8⟩
theorem zbu{R:VK->St->It->Hp->Prop}(conv:∀Q σ J H1,R Q σ J H1->z28 J g tc te (λys H2=>∀p,H2 p=none->Q (.ref p) (upd H2 p (.lst ys))) (z7n σ ix (List.replicate xs.length none)) H1)(hc:X.calm=true)(S:CompScG X scope xs fr ix)(hi:PI X tg iter wi)(B:∀C cells s₀ H₀ ex pins,PG (j6 X scope (xs ++ fr) C cells s₀ H₀ ex pins) tg g)
  (u:∀C cells s₀ H₀ ex pins,z7f (j6 X scope (xs ++ fr) C cells s₀ H₀ ex pins) bh tc) (r:∀C cells s₀ H₀ ex pins,PE (j6 X scope (xs ++ fr) C cells s₀ H₀ ex pins) bu te)
  (hs:∀x,foldedSetIterable iter X.env x=pure x:=by intro _;rfl):PE X (.ListComp bu [⟨tg,iter,bh,0⟩] scope pos) (λσ H Q=>wi σ H λJ H1=>R Q σ J H1):=by
 intro pins s σ H Q I h;rw [eval_ListComp];have f:∀y∈scope.names,y.2= .free->∃c,X.env.cells.lookup y.1=some c:=λy j i=>I.ok.has y.1 (S.clo y j i)
 refine wpAny_comprehension_free (use:=none) rfl hs (kY f) S.kind S.names (thn (hi pins s σ H _ I h) λv s1 h1=>thn h1 λF s2 h2=> ?_);obtain⟨it,fp,tn,J,H2,rfl,D,T,d,f2,z⟩:=h2;refine w0H (z3x ?_);have t:tn 0 (pushCells ((s2.heap.push jm).push z08) scope.names):=T.keep _ _ _ d λb a o e=>w0J _ _ b o (wo _ (wo _ e))
 have loop:=z4v (iter:=iter) (pos:=pos) (R:=compPost (model X.prog X.w) X.A X.xe none (EP X pins σ Q) (.ref s2.heap.objs.size) (s2.heap.push jm).objs.size) hc S r u B D T d f2 (conv _ _ _ _ z)
  (λK ys G ⟨m,hn⟩ q l E a=>⟨m,hn,λh' n=>⟨.ref s2.heap.objs.size,_,a h' n,rfl,q _ l⟩⟩)
 exact codeAny_compStart_list loop (T.self _ _ _ _ _ t loop)
def zag(j:Nat)(wi:TI)(n:Nat)(ix:List Nat)(g:TG)(tc:TT)(te:TE):TS:=λD σ H=>wi σ H λJ H1=>z28 J g tc te (λys H2=>∀p,H2 p=none->D.nx (σ.set j (some (.ref p))) (upd H2 p (.lst ys))) (z7n σ ix (List.replicate n none)) H1
theorem z3F{R:Ends->St->It->Hp->Prop}(conv:∀D σ J H1,R D σ J H1->z28 J g tc te (λys H2=>∀p,H2 p=none->D.nx (σ.set j (some (.ref p))) (upd H2 p (.lst ys))) (z7n σ ix (List.replicate xs.length none)) H1)(hc:X.calm=true)(hN:X.N.Nodup)(G:X.N[j]? =some y)(l:Loc X.env.scope y)(S:CompScG X scope xs fr ix)(hi:PI X tg iter wi)(fW:∀C cells s₀ H₀ ex pins,PG (j6 X scope (xs ++ fr) C cells s₀ H₀ ex pins) tg g)
  (dJ:∀C cells s₀ H₀ ex pins,z7f (j6 X scope (xs ++ fr) C cells s₀ H₀ ex pins) bh tc) (U:∀C cells s₀ H₀ ex pins,PE (j6 X scope (xs ++ fr) C cells s₀ H₀ ex pins) bu te)
  (hs:∀x,foldedSetIterable iter X.env x=pure x:=by intro _;rfl)
  (im:swapsWith (.ListComp bu [⟨tg,iter,bh,0⟩] scope pos) (some (.Name y py)) bY.line X.env=pure true:=by rfl)
  (P:X.fn y=true\/X.env.scope.names.lookup y=some .local:=by first | exact .inl rfl | exact .inr rfl | assumption):
  PS X (.Assign [.Name y py] (.ListComp bu [⟨tg,iter,bh,0⟩] scope pos) bY) (λD σ H=>wi σ H λJ H1=>R D σ J H1):=by
 intro pins s σ H D I h;rw [exec_Assign_Name_used _ _ _ _ im];refine wy (wpAny_standAt (wy ?_))
 show wpAny _ X.A (do let _<-comprehension (.ListComp bu [⟨tg,iter,bh,0⟩] scope pos) scope X.env _ (newList []) false (eval iter X.env) (some (assign (.Name y py) X.env))) _ _ s
 have O:∀y∈scope.names,y.2= .free->∃c,X.env.cells.lookup y.1=some c:=λy l hk=>I.ok.has y.1 (S.clo y l hk)
 refine wy (qY (wpAny_comprehension_free (use:=some (assign (.Name y py) X.env)) (Q:=λ_ s'=>SP X pins D .next s') rfl hs (kY O) S.kind S.names
  (thn (hi pins s σ H _ I h) λv s1 h1=>thn h1 λm7 s2 h2=> ?_)) (λ_ s' hq=>wV (wV hq)) λ_ _ e=>e)
 obtain⟨it,fp,tn,J,H2,rfl,f,T,u,f2,Z⟩:=h2;refine w0H (z3x ?_);have L:tn 0 (pushCells ((s2.heap.push jm).push z08) scope.names):=T.keep _ _ _ u λb i o e=>w0J _ _ b o (wo _ (wo _ e))
 have d:(s2.heap.push jm).objs.size=s2.heap.objs.size + 1:=Qc ..;have loop:=z4v (iter:=iter) (pos:=pos) (R:=compPost (model X.prog X.w) X.A X.xe (some (assign (.Name y py) X.env)) (λ_ s'=>SP X pins D .next s') (.ref s2.heap.objs.size) (s2.heap.push jm).objs.size) hc S U dJ fW f T u f2 (conv _ _ _ _ Z)
  (λt ys B ⟨m,hn⟩ q nD r i=>by
   have M:Inv X pins σ (upd B s2.heap.objs.size (.lst ys)) t:=i t.heap (Heap.SameBut.refl ..);have E:(s2.heap.push jm).objs.size≠X.env.locals:=by rw [d];exact QC (Q0 f.lt)
   have F:∀z c,X.env.cells.lookup z=some c->c≠(s2.heap.push jm).objs.size:=λz c e=>by
    obtain⟨v,w⟩:=f.cell z c e;rw [d];exact wW (Q0 w.lt)
   show wpAny _ X.A (assign (.Name y py) X.env (.ref s2.heap.objs.size)) _ _ t
   refine wpAny_assign_Name (z5E (v:= .ref s2.heap.objs.size) M hN G l rfl (?_) P);rintro s6 I6 ⟨a,sa,ha⟩;have K:(s2.heap.push jm).objs.size≠a:=by
    rcases ha with e | e
    ·rw [e];exact E
    ·exact(F _ _ e).symm
   refine⟨m,hn.sameBut sa K,λY n=> ?_⟩;have nC:upd B s2.heap.objs.size (.lst ys) (s2.heap.push jm).objs.size=none:=by
    rw [zl (by rw [d];exact Nat.succ_ne_self _)];exact r
   have I7:=Inv.turned (it:=(s2.heap.push jm).objs.size) (t':=s6.toks) (h':=Y) I6 (λb o i e=>(n.2 b i).trans e) nC E (.inr (by rw [d];exact Nat.le_succ_of_le f.sz)) F (λp hp=>by
    rw [d];exact wW (Q0 (wI (f.pin p hp).1)))
   exact⟨_,_,I7,q _ nD⟩)
 exact codeAny_compStart_list loop (T.self _ _ _ _ _ L loop)
theorem z6K(hc:X.calm=true)(d:X.N.Nodup)(a:X.N[j]? =some y)(b:Loc X.env.scope y)(S:CompScG X scope xs fr ix)(hi:PI X tg iter wi)(i:∀C cells s₀ H₀ ex pins,PG (j6 X scope (xs ++ fr) C cells s₀ H₀ ex pins) tg g)
  (f:∀C cells s₀ H₀ ex pins,z7f (j6 X scope (xs ++ fr) C cells s₀ H₀ ex pins) bh tc) (e:∀C cells s₀ H₀ ex pins,PE (j6 X scope (xs ++ fr) C cells s₀ H₀ ex pins) bu te)
  (hs:∀x,foldedSetIterable iter X.env x=pure x:=by intro _;rfl)
  (l:swapsWith (.ListComp bu [⟨tg,iter,bh,0⟩] scope pos) (some (.Name y py)) bY.line X.env=pure true:=by rfl)
  (c:X.fn y=true\/X.env.scope.names.lookup y=some .local:=by first | exact .inl rfl | exact .inr rfl | assumption):
  PS X (.Assign [.Name y py] (.ListComp bu [⟨tg,iter,bh,0⟩] scope pos) bY) (zag j wi xs.length ix g tc te):=z3F (λ_ _ _ _ h=>h) hc d a b S hi i f e hs l c
end
section
variable{px:Pos}
theorem CompSc.g(S:CompSc X scope x fr ix):CompScG X scope [x] fr ix:=⟨S.kind,S.names,S.uniq,S.clo,S.free,S.nd,S.len⟩
theorem CompSc.pg(S:CompSc X scope x fr ix)(C:Addr)(cells:List (Str×Addr))(s₀:Shared)(H₀:Hp)(ex:List Addr)(pins:List (Addr×Obj)):PG (j6 X scope ([x] ++ fr) C cells s₀ H₀ ex pins) (.Name x px) (z1F 0):=by
 rcases S.xloc with h | h
 ·have a:(j6 X scope ([x] ++ fr) C cells s₀ H₀ ex pins).env.scope.names.lookup x=some .local:=yn (env:=X.env) h;exact z0s (i:=0) S.nd rfl (.inl a) (.inr a)
 ·have a:(j6 X scope ([x] ++ fr) C cells s₀ H₀ ex pins).env.scope.names.lookup x=some .cell:=yn (env:=X.env) h;exact z0s (i:=0) S.nd rfl (.inr a) (.inl (wL (qT h)))
theorem z9y{σ:St}{H1:Hp}(h:z0h J σ ix tc te Q H1):z28 J (z1F 0) tc te Q (z7n σ ix (List.replicate 1 none)) H1:=by
 obtain⟨W,w0,hs⟩:=h;refine⟨λσ'=>∃a,σ'=sub σ ix a,W,⟨none,rfl⟩,w0,?_⟩;rintro i m ys _ H ⟨a,rfl⟩ w;obtain⟨l,o⟩:=hs i m ys H w;exact⟨l,o.imp id λ⟨g,e,c,d,b,t⟩=>⟨g,e,c,d,b,λx H' y=>⟨⟨some x,rfl⟩,t x H' y⟩⟩⟩
def zeM(wi:TI)(ix:List Nat)(tc:TT)(te:TE):TE:=λσ H Q=>wi σ H λJ H1=>z0h J σ ix tc te (λys H2=>∀p,H2 p=none->Q (.ref p) (upd H2 p (.lst ys))) H1
theorem jC(hc:X.calm=true)(S:CompSc X scope x fr ix)(hi:PI X (.Name x px) iter wi)
  (b:∀C cells s₀ H₀ ex pins,z7f (j6 X scope (x :: fr) C cells s₀ H₀ ex pins) bh tc) (a:∀C cells s₀ H₀ ex pins,PE (j6 X scope (x :: fr) C cells s₀ H₀ ex pins) bu te)
  (hs:∀x,foldedSetIterable iter X.env x=pure x:=by intro _;rfl):PE X (.ListComp bu [⟨.Name x px,iter,bh,0⟩] scope pos) (zeM wi ix tc te):=zbu (xs:= [x]) (R:=λQ σ J H1=>z0h J σ ix tc te (λys H2=>∀p,H2 p=none->Q (.ref p) (upd H2 p (.lst ys))) H1) (λ_ _ _ _ h=>z9y h) hc S.g hi S.pg b a hs
def zba(j:Nat)(wi:TI)(ix:List Nat)(tc:TT)(te:TE):TS:=λD σ H=>wi σ H λJ H1=>z0h J σ ix tc te (λys H2=>∀p,H2 p=none->D.nx (σ.set j (some (.ref p))) (upd H2 p (.lst ys))) H1
theorem jY(hc:X.calm=true)(d:X.N.Nodup)(a:X.N[j]? =some y)(b:Loc X.env.scope y)(S:CompSc X scope x fr ix)(hi:PI X (.Name x px) iter wi)
  (f:∀C cells s₀ H₀ ex pins,z7f (j6 X scope (x :: fr) C cells s₀ H₀ ex pins) bh tc) (e:∀C cells s₀ H₀ ex pins,PE (j6 X scope (x :: fr) C cells s₀ H₀ ex pins) bu te)
  (hs:∀x,foldedSetIterable iter X.env x=pure x:=by intro _;rfl)
  (i:swapsWith (.ListComp bu [⟨.Name x px,iter,bh,0⟩] scope pos) (some (.Name y py)) bY.line X.env=pure true:=by rfl)
  (c:X.fn y=true\/X.env.scope.names.lookup y=some .local:=by first | exact .inl rfl | exact .inr rfl | assumption):
  PS X (.Assign [.Name y py] (.ListComp bu [⟨.Name x px,iter,bh,0⟩] scope pos) bY) (zba j wi ix tc te):=z3F (xs:= [x]) (R:=λD σ J H1=>z0h J σ ix tc te (λys H2=>∀p,H2 p=none->D.nx (σ.set j (some (.ref p))) (upd H2 p (.lst ys))) H1) (λ_ _ _ _ h=>z9y h) hc d a b S.g hi S.pg f e hs i c
end
end L2

namespace L2
open PySem PySem.Spec PyProof.Rows
noncomputable def z6A(sx:Scope)(NX:List Str)(scope:Scope)(x:Str)(fr:List Str)(ix:List Nat):Bool:=
 (scope.kind == .function) && scope.names.all (λy=>y.2 != .local || scope.names.lookup y.1 == some .local) && decide ((scope.names.map (·.1)).Nodup) &&
 (scope.names.lookup x == some .local || scope.names.lookup x == some .cell) && scope.names.all (λy=>y.2 != .free || (sx.names.lookup y.1 == some .cell || sx.names.lookup y.1 == some .free)) &&
 decide (fr.length=ix.length) && decide ((x :: fr).Nodup) && (fr.zip ix).all λp=>NX[p.2]? == some p.1 && scope.names.lookup p.1 == some .free
variable{X:Cx}{x:Str}{fr:List Str}{ix:List Nat}{scope:Scope}{NX:List Str}
theorem CompSc.of{sx:Scope}(hs:X.env.scope=sx)(i:X.N=NX)(h:z6A sx NX scope x fr ix=true):CompSc X scope x fr ix:=by
 simp only [z6A,qZ,w0K,Qt,qN,Bool.or_eq_true,bne_iff_ne,ne_eq]at h;obtain⟨⟨⟨⟨⟨⟨⟨h1,h2⟩,f⟩,j⟩,l⟩,c⟩,n⟩,d⟩:=h;refine⟨h1,λy b a=> ?_,f,j,λy b a=> ?_,λk y e=> ?_,n,c⟩
 ·rcases h2 y b with q | q
  ·exact absurd a q
  ·exact q
 ·show X.env.scope.names.lookup y.1=_\/X.env.scope.names.lookup y.1=_
  rw [hs];rcases l y b with q | q
  ·exact absurd a q
  ·exact q
 ·have a:k < ix.length:=by rw [<-c];exact(we.mp e).1
  have hz:(fr.zip ix)[k]? =some (y,ix[k]):=by
   rw [List.getElem?_zip_eq_some];exact⟨e,wa a⟩
  obtain⟨a1,a2⟩:=d _ (qL hz);exact⟨ix[k],wa a,by rw [i];exact a1,a2⟩
noncomputable def zdx(scope sx:Scope):Scope:=
 {scope with names:=scope.names.map λ(n,k)=>if(k == .free && sx.kind == .function && sx.names.lookup n == some .cell)then(n,.cell)else(n,k)}
theorem CompSc.of2{a sx:Scope}{b:List Str}{C:Addr}{cells:List (Str×Addr)}{s₀:Shared}{H₀:Hp}{ex:List Addr}{pins:List (Addr×Obj)}(hs:X.env.scope=sx)(c:b=NX)(h:z6A (zdx a sx) NX scope x fr ix=true):
  CompSc (j6 X a b C cells s₀ H₀ ex pins) scope x fr ix:=by
 refine CompSc.of (sx:=zdx a sx) ?_ c h;subst hs
 rfl
variable{a:Addr}{xs:List V}{tc:TT}{te:TE}{Q:List V->Hp->Prop}{H:Hp}{σ:St}
theorem z0t{K:W.Frag}(c:Nat->List V->Hp->Prop)(h0:c 0 [] H)(hl:∀i ys H,i<=xs.length->c i ys H->SqL K H a xs/\ys.length < sizeLine)
  (hs:∀(i:Nat) x ys H,xs[i]? =some x->c i ys H->tc (sub σ ix (some x)) H λb H2=>if b=true then te (sub σ ix (some x)) H2 λy d=>c (i + 1) (ys ++ [y]) d else c (i + 1) ys H2) (hd:∀ys H,c xs.length ys H->Q ys H):z0h (Itl K a) σ ix tc te Q H:=by
 refine⟨λi m ys H=>m=xs.length - i/\i<=xs.length/\c i ys H,⟨_,rfl,qQ _,h0⟩,?_⟩;rintro i m ys H ⟨rfl,hi,p⟩;obtain⟨q,hz⟩:=hl i ys H hi p;refine⟨hz,?_⟩;by_cases ag:i < xs.length
 ·refine .inr ⟨⟨xs,xs[i],q,by simp [ag]⟩,λy d=>c (i + 1) (ys ++ [y]) d,λH2=>c (i + 1) ys H2,λy d z=>⟨xs.length - (i + 1),by lia,rfl,ag,z⟩,λH2 z=>⟨xs.length - (i + 1),by lia,rfl,ag,z⟩,λx H' y=> ?_⟩;obtain⟨e,y⟩:=y;subst e;exact hs i x ys _ (y xs q) p
 ·have e:i=xs.length:=by lia
  subst e;exact .inl ⟨⟨xs,q,ww _⟩,hd ys H p⟩
variable{lo:Int}{n:Nat}
theorem z7Y(a:Nat->List V->Hp->Prop)(h0:a 0 [] H)(hl:∀i ys H,i<=n->a i ys H->ys.length < sizeLine)
  (hs:∀(i:Nat) ys H,i < n->a i ys H->tc (sub σ ix (some (.int (lo + i)))) H λb H2=>if b=true then te (sub σ ix (some (.int (lo + i)))) H2 λy c=>a (i + 1) (ys ++ [y]) c else a (i + 1) ys H2) (hd:∀ys H,a n ys H->Q ys H):z0h (Itr lo n) σ ix tc te Q H:=by
 refine⟨λi m ys H=>m=n - i/\i<=n/\a i ys H,⟨_,rfl,qQ _,h0⟩,?_⟩;rintro i m ys H ⟨rfl,hi,p⟩;refine⟨hl i ys H hi p,?_⟩;by_cases ag:i < n
 ·refine .inr ⟨ag,λy c=>a (i + 1) (ys ++ [y]) c,λH2=>a (i + 1) ys H2,λy c z=>⟨n - (i + 1),by lia,rfl,ag,z⟩,λH2 z=>⟨n - (i + 1),by lia,rfl,ag,z⟩,λx H' y=> ?_⟩;obtain⟨e,y⟩:=y;subst e y;exact hs i ys _ ag p
 ·have e:i=n:=by lia
  subst e;exact .inl ⟨ww _,hd ys H p⟩
def ja{K:W.Frag}(b:Nat->List V->Hp->Prop)(h0:b 0 [] H)(hl:∀i ys H,i<=xs.length->b i ys H->SqL K H a xs/\ys.length < sizeLine)
  (hs:∀(i:Nat) x ys H,xs[i]? =some x->b i ys H->te (sub σ ix (some x)) H λy c=>b (i + 1) (ys ++ [y]) c) (hd:∀ys H,b xs.length ys H->Q ys H):z0h (Itl K a) σ ix z7z te Q H:=
 z0t b h0 hl (λi x ys H e p=>z8t (A:=te (sub σ ix (some x)) H λy c=>b (i + 1) (ys ++ [y]) c) (B:=b (i + 1) ys H) (hs i x ys H e p)) hd
def z05(a:Nat->List V->Hp->Prop)(h0:a 0 [] H)(hl:∀i ys H,i<=n->a i ys H->ys.length < sizeLine)
  (hs:∀(i:Nat) ys H,i < n->a i ys H->te (sub σ ix (some (.int (lo + i)))) H λy b=>a (i + 1) (ys ++ [y]) b) (hd:∀ys H,a n ys H->Q ys H):z0h (Itr lo n) σ ix z7z te Q H:=
 z7Y a h0 hl (λi ys H e p=>z8t (A:=te (sub σ ix (some (.int (lo + i)))) H λy b=>a (i + 1) (ys ++ [y]) b) (B:=a (i + 1) ys H) (hs i ys H e p)) hd
theorem z8U:∀(us:List Value) (ss:List Str),us.length=ss.length->(∀(j:Nat) (u:Value),us[j]? =some u->∃x t,ss[j]? =some x/\u=Value.str x t)->StrsAre us ss
 | [],[],_,_=> .nil
 | [],_ :: _,h,_=>by simp at h
 | _ :: _,[],h,_=>by simp at h
 | u :: us,s :: ss,h,a=>by
  obtain⟨x,t,f,d⟩:=a 0 u rfl;have c:s=x:=Option.some.inj f;subst c d;exact .cons _ _ (z8U us ss (by simpa using h) λj b e=>a (j + 1) b e)
def z5J:∀{us:List Value} {ss:List Str},StrsAre us ss->zL (ss.map V.str) us
 | _,_,.nil=> .nil
 | _,_,.cons _ t r=> .cons ⟨t,rfl⟩ (z5J r)
theorem z51(hc:X.calm=true):kj X (.builtin "sorted") (λxs H Q=>∃d kvs ss,xs= [.ref d]/\H d=some (.dK kvs)/\kvs.map (·.1)=ss.map Sum.inr/\kvs.length < 64/\
  ∀l c,H l=none->c.Perm ss->sortedS c=true->Q (.ref l) (upd H l (.lst (c.map V.str)))):=by
 intro pins s σ H xs us Q I r h;obtain⟨d,kvs,ss,rfl,hd,M,gQ,q⟩:=h;obtain⟨u,rfl,Y⟩:=vals1 r;cases Y;obtain⟨hz,L,vs,rel,m⟩:kvs.length<=sizeLine/\(d == sysModules)=false/\∃vs,KV kvs vs/\s.heap.DictOf (jw X.prog X.w) d vs:=I.hok d _ hd
 obtain⟨ep,N⟩:=m.dictAt;have hlen:kvs.length=vs.length:=Paired.length rel;have B:vs.map (·.1)=ss.map Sum.inr:=(KV.keys rel).symm.trans M;have S:vs.length=ss.length:=by
  have:=Q6 List.length B
  rwa [w9,w9]at this
 refine Calls.call_function_entry kind_sorted plain_sorted entry_sorted (args_sorted1 _) ?_;unfold Builtin.«sorted»;refine wy (m:=checkCount "sorted" 1 1 _) (wV ?_);refine wy (PySem.W.kdu_collect (A:=X.A.in1) (PySem.W.kdl_dict (knd:=jw X.prog X.w) (kvs:=vs) (ep:=ep) L) (I.ok.hd hc) N (by lia) λh' tk acc K P=> ?_);obtain⟨R,T⟩:=P;have hl:acc.toList.length=ss.length:=by rw [w0O,R,S]
 have p:StrsAre acc.toList ss:=z8U _ _ hl λj u e=>by
  obtain⟨k,x,O,J⟩:=T j u (by rw [<-Array.getElem?_toList];exact e);have z:j < ss.length:=by rw [<-hl];exact(we.mp e).1
  have F:(vs.map (·.1))[j]? =some k:=by rw [wF,O];rfl
  rw [B,wF,wa z]at F;have e2:(Sum.inr ss[j]:Key)=k:=Option.some.inj F;subst e2;rcases jx (show z3C (Sum.inr ss[j]) u=true from J)with⟨i,t,e3,_⟩ | ⟨y,t,e3,e4⟩
  ·cases e3
  ·cases e3;exact⟨_,t,wa z,e4⟩
 have U:acc.toList.length < 64:=by lia
 have E:Inv X pins σ H {s with heap:=h',toks:=tk}:=I.kept K;refine wy (wpAny_newList ?_ (jb (by lia)));have f:(h'.push (seqObj "list" acc.toList.toArray 0)).get? h'.objs.size=some (seqObj "list" acc.toList.toArray 0):=q5 _ rfl;refine wy (QE (wpAny_call_entry slot_list_sort ⟨_,f,rfl⟩ entry_list_sort (list_sort_treeK strKind_oneLt f p.keysOf (λG D rest e=>keyKind_strs (by rw [<-e];exact p)) U λn a1 a2=>⟨_,rfl,?_⟩) (args_list_sort _)));refine wV ⟨_,rfl,?_⟩;obtain⟨c,b1,b2,Z⟩:=sorted_out_str p a1 a2;obtain⟨e,he⟩:=sortedHeap_at (out:=(arrOf n).map (·.2)) f;refine⟨.ref h'.objs.size,upd H h'.objs.size (.lst (c.map V.str)),?_,rfl,q _ c E.fresh b2 Z⟩;refine E.laid (a:=h'.objs.size) (t':=tk) (λb o e=> ?_) (ww _) ⟨?_,_,e,z5J b1,?_⟩
 ·have C:=wI e;rw [sortedHeap_old (wW C) (by rw [Qc];exact Q0 C)];exact wo _ e
 ·rw [w9,b2.length_eq];exact jb (by lia)
 ·show(sortedHeap (h'.push (seqObj "list" acc.toList.toArray 0)) h'.objs.size acc.toList ((arrOf n).map (·.2))).get? h'.objs.size=some (seqObj "list" ((arrOf n).map (·.2)).toList.toArray e)
  rw [Array.toArray_toList];exact he
def leS(a b:Str):Prop:=¬b.cps.toList < a.cps.toList
def za7{a b c:Str}(h1:leS a b)(h2:leS b c):leS a c:=List.le_trans (α:=Nat) h1 h2
theorem zaA{a b:Str}(h:(!ltCps b.cps.toList a.cps.toList)=true):leS a b:=by
 rw [ltCps_eq,Bool.not_eq_true',decide_eq_false_iff_not]at h;exact h
theorem z5g:∀(p:Str) (l:List Str),risingS p l=true->(p :: l).Pairwise leS
 | p,[],_=>List.pairwise_singleton _ _
 | p,x :: r,h=>by
  rw [show risingS p (x :: r)=(!ltCps x.cps.toList p.cps.toList && risingS x r)from rfl,qZ]at h;have a:=z5g x r h.2;refine List.pairwise_cons.mpr ⟨λy hy=> ?_,a⟩;rcases wG.mp hy with e | hy
  ·rw [e];exact zaA h.1
  ·exact za7 (zaA h.1) (List.rel_of_pairwise_cons a hy)
def zav:∀{l:List Str},sortedS l=true->l.Pairwise leS
 | [],_=> .nil
 | x :: r,h=>z5g x r h
theorem yZ{α:Type} [DecidableEq α]:∀{l us:List α},l.Nodup->(∀x∈l,x∈us)->l.length<=us.length
 | [],_,_,_=>qQ _
 | x :: l,us,hn,hs=>by
  obtain⟨h1,h2⟩:=w00.mp hn;have a:x∈us:=hs x qy;have c:=yZ (l:=l) (us:=us.erase x) h2 λy b=>(List.mem_erase_of_ne (λe=>h1 (by rw [<-e];exact b))).mpr (hs y (wX _ b))
  rw [List.length_erase_of_mem a]at c;have:0 < us.length:=List.length_pos_of_mem a;rw [wN]
  lia
def z4D{i:Nat}{v:V}{Q:St->Hp->Prop}(h:Q (σ.set i (some v)) H):z1F i v σ H Q:=h
def z64{t u:TS}{D:Ends}(h:t {D with nx:=u D} σ H):z1C t u D σ H:=h
variable{t:TA}{es:List Expr}
section
variable{K:W.Frag}
theorem yz(h:X.K=K):IxR X (zej K):=by subst h;exact z8R
theorem z00(h:X.K=K):IxR X (zef K):=by subst h;exact zbz
theorem z7R(h:X.K=K):OpR X (compareOp .In) (rIn K false):=by subst h;exact kK
theorem z4X(h:X.K=K):kj X (.builtin "len") (λxs H Q=>∃p ys,xs= [.ref p]/\(SqL K H p ys\/SqT K H p ys)/\Q (.int ys.length) H):=by subst h;exact z2I
theorem z2f(h:X.K=K):kj X (.type "list") (λxs H Q=>∃p ys,xs= [.ref p]/\(SqL K H p ys\/SqT K H p ys)/\∀l,H l=none->Q (.ref l) (upd H l (.lst ys))):=by subst h;exact yE
theorem z5p(h:X.K=K):MtM X "list.index" (zbG K):=by subst h;exact yi
theorem z7E{tg l:Expr}{tl:TE}(h:X.K=K)(hl:PE X l tl):PI X tg l (zdy K tl):=by subst h;exact zR hl
theorem zc6{o e:Expr}{to:TE}{name:Str}{apos ae:Pos}{T id:String}{r:V->List V->Hp->VK->Prop}(h:X.K=K)(b:PlainAttrs T)(slot:Slot T name id)(c:typeOf (.builtin id)=pure (.type "method_descriptor"))(hm:MtR X id r)(a:PE X o to)(ha:PA X (e :: es) t)
  (d:attributeBase o name X.env (eval o X.env)=eval o X.env:=by rfl)
  (i:((backTo ae (starEach (e :: es) X.env)).all (λx=> !x.1) && (backToKw ae (keywordEach [] X.env)).all (λx=>x.1.isSome)
   && decide ((e :: es).length + ([]:List Keyword).length + (if([]:List Keyword).isEmpty then 0 else 1) < 30))=true:=by rfl)
  (f:(apos.endLine == ae.line)=true:=by rfl) (hs:starEach (e :: es) X.env=(false,eval e X.env) :: starEach es X.env:=by rfl) (hplain:(backTo ae (starEach es X.env)).any (·.1)=false:=by rfl):
  PE X (.Call (.Attribute o name apos) (e :: es) [] ae) (tBM K T r to t):=by
 subst h;exact ky b slot c hm a ha d i f hs hplain
end
def zt{a b c}(ha:PE X (.Constant a b c) te)(hr:PA X es t):PA X (.Constant a b c :: es) (z1S te t):=zN ha hr
def zb{a b}(ha:PE X (.Name a b) te)(hr:PA X es t):PA X (.Name a b :: es) (z1S te t):=zN ha hr
def zZ{a b c}(ha:PE X (.Tuple a b c) te)(hr:PA X es t):PA X (.Tuple a b c :: es) (z1S te t):=zN ha hr
def yo{a b c d}(ha:PE X (.BinOp a b c d) te)(hr:PA X es t):PA X (.BinOp a b c d :: es) (z1S te t):=zN ha hr
def zm{a b c}(ha:PE X (.Subscript a b c) te)(hr:PA X es t):PA X (.Subscript a b c :: es) (z1S te t):=zN ha hr
def zO{a b c d}(ha:PE X (.Call a b c d) te)(hr:PA X es t):PA X (.Call a b c d :: es) (z1S te t):=zN ha hr
def jI{a b}(ha:PE X (.List a b) te)(hr:PA X es t):PA X (.List a b :: es) (z1S te t):=zN ha hr
def zcS{a b c}(ha:PE X (.UnaryOp a b c) te)(hr:PA X es t):PA X (.UnaryOp a b c :: es) (z1S te t):=zN ha hr
def z8P{a b c d}(ha:PE X (.Compare a b c d) te)(hr:PA X es t):PA X (.Compare a b c d :: es) (z1S te t):=zN ha hr
def z0r{a b c d}(ha:PE X (.ListComp a b c d) te)(hr:PA X es t):PA X (.ListComp a b c d :: es) (z1S te t):=zN ha hr
theorem z40{a b:Int}{k1 k2}{c p2 d:Pos}(hc:zff a b):PE X (.BinOp (.Constant (.int a) k1 c) .Pow (.Constant (.int b) k2 p2) d) (tC (.int (a ^ b.toNat))):=by
 intro pins s σ H Q I h;exact(zp zeu za za) pins s σ H Q I ⟨a,b,rfl,rfl,hc,h⟩
end L2

namespace L2
open PySem PySem.Spec PyProof.Rows
def tL:List (W.Frag->TS)->W.Frag->TS
 | [],_=>z2h
 | a :: b,K=>z1C (a K) (tL b K)
structure NmF(a b:W.Frag->TS):Prop where
 e:∀K,a K=b K
structure ClF(a:W.Frag->TS)(bs:List (W.Frag->TS)):Prop where
 e:∀K,a K=tL bs K
variable{D:Ends}{H:Hp}
section
variable{a a' b b1 b2:W.Frag->TS}{bs aW cG:List (W.Frag->TS)}{c:W.Frag->TT}{wi:W.Frag->TI}{g:W.Frag->TG}
theorem zeq:ClF (λ_=>z2h) []:=⟨λ_=>rfl⟩
theorem zcV(h0:NmF a a')(h2:ClF b bs):ClF (λK=>z1C (a K) (b K)) (a' :: bs):=⟨λK=>by show z1C (a K) (b K)=z1C (a' K) (tL bs K);rw [h0.e,h2.e]⟩
theorem zeE(h0:NmF a a'):ClF a [a']:=⟨λK=>by rw [h0.e];rfl⟩
theorem zeZ(h1:ClF b1 aW)(h2:ClF b2 cG)(h:NmF (λK=>z6u (c K) (tL aW K) (tL cG K)) a'):NmF (λK=>z6u (c K) (b1 K) (b2 K)) a':=⟨λK=>by rw [h1.e,h2.e];exact h.e K⟩
theorem zdZ(h1:ClF b1 aW)(h2:ClF b2 cG)(h:NmF (λK=>zaC (c K) (tL aW K) (tL cG K)) a'):NmF (λK=>zaC (c K) (b1 K) (b2 K)) a':=⟨λK=>by rw [h1.e,h2.e];exact h.e K⟩
theorem zbn(h1:ClF b1 aW)(h:NmF (λK=>z1q (c K) (tL aW K)) a'):NmF (λK=>z1q (c K) (b1 K)) a':=⟨λK=>by rw [h1.e];exact h.e K⟩
theorem zdY(h1:ClF b1 aW)(h:NmF (λK=>zah (wi K) (g K) (tL aW K)) a'):NmF (λK=>zah (wi K) (g K) (b1 K)) a':=⟨λK=>by rw [h1.e];exact h.e K⟩
theorem jj{K:W.Frag}{σ:St}{t:W.Frag->TS}(e:ClF t bs)(h:tL bs K D σ H):∀a,K=a->t a D σ H:=by
 rintro _ rfl;rw [e.e];exact h
end
def tL2:List (W.Frag->Addr->TS)->W.Frag->Addr->TS
 | [],_,_=>z2h
 | a :: b,K,A=>z1C (a K A) (tL2 b K A)
structure NmF2(a b:W.Frag->Addr->TS):Prop where
 e:∀K A,a K A=b K A
structure ClF2(a:W.Frag->Addr->TS)(bs:List (W.Frag->Addr->TS)):Prop where
 e:∀K A,a K A=tL2 bs K A
variable{A:Addr}
section
variable{a a' b b1 b2:W.Frag->Addr->TS}{bs aW cG:List (W.Frag->Addr->TS)}{c:W.Frag->Addr->TT}{wi:W.Frag->Addr->TI}{g:W.Frag->Addr->TG}
theorem zcI:ClF2 (λ_ _=>z2h) []:=⟨λ_ _=>rfl⟩
theorem zbY(h0:NmF2 a a')(h2:ClF2 b bs):ClF2 (λK A=>z1C (a K A) (b K A)) (a' :: bs):=⟨λK A=>by show z1C (a K A) (b K A)=z1C (a' K A) (tL2 bs K A);rw [h0.e,h2.e]⟩
theorem zdu(h0:NmF2 a a'):ClF2 a [a']:=⟨λK A=>by rw [h0.e];rfl⟩
theorem zeD(h1:ClF2 b1 aW)(h2:ClF2 b2 cG)(h:NmF2 (λK A=>z6u (c K A) (tL2 aW K A) (tL2 cG K A)) a'):NmF2 (λK A=>z6u (c K A) (b1 K A) (b2 K A)) a':=⟨λK A=>by rw [h1.e,h2.e];exact h.e K A⟩
theorem zcw(h1:ClF2 b1 aW)(h2:ClF2 b2 cG)(h:NmF2 (λK A=>zaC (c K A) (tL2 aW K A) (tL2 cG K A)) a'):NmF2 (λK A=>zaC (c K A) (b1 K A) (b2 K A)) a':=⟨λK A=>by rw [h1.e,h2.e];exact h.e K A⟩
theorem zau(h1:ClF2 b1 aW)(h:NmF2 (λK A=>z1q (c K A) (tL2 aW K A)) a'):NmF2 (λK A=>z1q (c K A) (b1 K A)) a':=⟨λK A=>by rw [h1.e];exact h.e K A⟩
theorem z0f{K:W.Frag}{σ:St}{t:W.Frag->Addr->TS}(e:ClF2 t bs)(h:tL2 bs K A D σ H):∀a,K=a->∀b,A=b->t a b D σ H:=by
 rintro _ rfl _ rfl;rw [e.e];exact h
end
def tL3:List (W.Frag->Addr->Addr->TS)->W.Frag->Addr->Addr->TS
 | [],_,_,_=>z2h
 | a :: b,K,A,B=>z1C (a K A B) (tL3 b K A B)
structure NmF3(a b:W.Frag->Addr->Addr->TS):Prop where
 e:∀K A B,a K A B=b K A B
structure ClF3(a:W.Frag->Addr->Addr->TS)(bs:List (W.Frag->Addr->Addr->TS)):Prop where
 e:∀K A B,a K A B=tL3 bs K A B
section
variable{a a' b b1 b2:W.Frag->Addr->Addr->TS}{bs aW cG:List (W.Frag->Addr->Addr->TS)}{c:W.Frag->Addr->Addr->TT}{wi:W.Frag->Addr->Addr->TI}{g:W.Frag->Addr->Addr->TG}
theorem zd6:ClF3 (λ_ _ _=>z2h) []:=⟨λ_ _ _=>rfl⟩
theorem zbj(h0:NmF3 a a')(h2:ClF3 b bs):ClF3 (λK A B=>z1C (a K A B) (b K A B)) (a' :: bs):=⟨λK A B=>by show z1C (a K A B) (b K A B)=z1C (a' K A B) (tL3 bs K A B);rw [h0.e,h2.e]⟩
theorem zcR(h0:NmF3 a a'):ClF3 a [a']:=⟨λK A B=>by rw [h0.e];rfl⟩
theorem zer(h1:ClF3 b1 aW)(h2:ClF3 b2 cG)(h:NmF3 (λK A B=>z6u (c K A B) (tL3 aW K A B) (tL3 cG K A B)) a'):NmF3 (λK A B=>z6u (c K A B) (b1 K A B) (b2 K A B)) a':=⟨λK A B=>by rw [h1.e,h2.e];exact h.e K A B⟩
theorem z9T(h1:ClF3 b1 aW)(h:NmF3 (λK A B=>z1q (c K A B) (tL3 aW K A B)) a'):NmF3 (λK A B=>z1q (c K A B) (b1 K A B)) a':=⟨λK A B=>by rw [h1.e];exact h.e K A B⟩
theorem zd0(h1:ClF3 b1 aW)(h:NmF3 (λK A B=>zah (wi K A B) (g K A B) (tL3 aW K A B)) a'):NmF3 (λK A B=>zah (wi K A B) (g K A B) (b1 K A B)) a':=⟨λK A B=>by rw [h1.e];exact h.e K A B⟩
theorem z5R{K:W.Frag}{B:Addr}{σ:St}{t:W.Frag->Addr->Addr->TS}(e:ClF3 t bs)(h:tL3 bs K A B D σ H):∀b,K=b->∀c,A=c->∀a,B=a->t b c a D σ H:=by
 rintro _ rfl _ rfl _ rfl;rw [e.e];exact h
end
def tL4:List (W.Frag->Addr->Addr->Addr->TS)->W.Frag->Addr->Addr->Addr->TS
 | [],_,_,_,_=>z2h
 | a :: b,K,A,B,C=>z1C (a K A B C) (tL4 b K A B C)
structure NmF4(a b:W.Frag->Addr->Addr->Addr->TS):Prop where
 e:∀K A B C,a K A B C=b K A B C
structure ClF4(a:W.Frag->Addr->Addr->Addr->TS)(bs:List (W.Frag->Addr->Addr->Addr->TS)):Prop where
 e:∀K A B C,a K A B C=tL4 bs K A B C
section
variable{a a' b b1 b2:W.Frag->Addr->Addr->Addr->TS}{bs aW cG:List (W.Frag->Addr->Addr->Addr->TS)}{c:W.Frag->Addr->Addr->Addr->TT}{wi:W.Frag->Addr->Addr->Addr->TI}{g:W.Frag->Addr->Addr->Addr->TG}
theorem zcs:ClF4 (λ_ _ _ _=>z2h) []:=⟨λ_ _ _ _=>rfl⟩
theorem zbO(h0:NmF4 a a')(h2:ClF4 b bs):ClF4 (λK A B C=>z1C (a K A B C) (b K A B C)) (a' :: bs):=⟨λK A B C=>by show z1C (a K A B C) (b K A B C)=z1C (a' K A B C) (tL4 bs K A B C);rw [h0.e,h2.e]⟩
theorem zcu(h0:NmF4 a a'):ClF4 a [a']:=⟨λK A B C=>by rw [h0.e];rfl⟩
theorem zdL(h1:ClF4 b1 aW)(h2:ClF4 b2 cG)(h:NmF4 (λK A B C=>z6u (c K A B C) (tL4 aW K A B C) (tL4 cG K A B C)) a'):NmF4 (λK A B C=>z6u (c K A B C) (b1 K A B C) (b2 K A B C)) a':=⟨λK A B C=>by rw [h1.e,h2.e];exact h.e K A B C⟩
theorem z84{K:W.Frag}{B C:Addr}{σ:St}{t:W.Frag->Addr->Addr->Addr->TS}(e:ClF4 t bs)(h:tL4 bs K A B C D σ H):∀b,K=b->∀d,A=d->∀a,B=a->∀c,C=c->t b d a c D σ H:=by
 rintro _ rfl _ rfl _ rfl _ rfl;rw [e.e];exact h
end
end L2

namespace L2
open PySem PySem.Spec PyProof.Rows
variable{X:Cx}{tb:TS}{pos:Pos}{N ps:List Str}{sc:Scope}{x:Str}{e:Expr}{op:CmpOp}{r:R2}{sp:Sp}{body:List Stmt}
section
variable{a b:Expr}{ta tb:TE}
theorem ixT(ha:PE X a ta)(c:PE X b tb)(hs:z6o b:=by exact λ_ _=>rfl):PE X (.Subscript a b pos) (tOp (zef X.K) ta tb):=yw zbz ha c hs
theorem ixL(ha:PE X a ta)(c:PE X b tb)(hs:z6o b:=by exact λ_ _=>rfl):PE X (.Subscript a b pos) (tOp (zej X.K) ta tb):=yw z8R ha c hs
theorem seT(i:Nat)(S:FnScope N ps sc){te:TE}{pos':Pos}(he:PE X e te)(c:X.N=N:=by rfl)(hi:X.N[i]? =some x:=by rfl)(a:Loc X.env.scope x:=by exact w02 rfl)(hs:swapsWith e (some (.Name x pos')) pos.line X.env=pure false:=by rfl)(b:X.fn x=true\/X.env.scope.names.lookup x=some .local:=by first | exact .inl rfl | exact .inr rfl | assumption):
  PS X (.Assign [.Name x pos'] e pos) (zeb te (z1F i)):=yI (c ▸ S.nd) hi a he hs b
theorem gnM(i:Nat)(S:FnScope N ps sc)(c:X.N=N:=by rfl)(hi:X.N[i]? =some x:=by rfl)(a:Loc X.env.scope x:=by exact w02 rfl)(b:X.fn x=true\/X.env.scope.names.lookup x=some .local:=by first | exact .inl rfl | exact .inr rfl | assumption):PG X (.Name x pos) (z1F i):=z0s (c ▸ S.nd) hi a b
theorem cmE(d:OpR X (compareOp op) r)(ha:PE X a ta)(c:PE X b tb)(hm:behindInMarks op b=false:=by exact zaK _):PE X (.Compare a [op] [b] pos) (tOp r ta tb):=z3Y d ha c hm
theorem cmT(d:OpR X (compareOp op) r)(ha:PE X a ta)(c:PE X b tb)(hm:behindInMarks op b=false:=by exact zaK _):PT X (.Compare a [op] [b] pos) (zdA (tOp r ta tb)):=kZ d ha c hm
variable{es:List Expr}{t:TA}{p:Pos}
theorem zQ{k:Nat}(C:Kn X.prog X.w X.K X.mg X.base k x ps sp)(hr:Room k X.A)(ha:PA X (e :: es) t)(c:Gl X x:=by rfl)
  (a:(x == ("__debug__":Str))=false:=by decide) (he:starEach (e :: es) X.env=(false,eval e X.env) :: starEach es X.env:=by rfl) (b:(backTo pos (starEach es X.env)).any (·.1)=false:=by rfl):
  PE X (.Call (.Name x p) (e :: es) [] pos) (zcf sp [] E0 t):=z1M C hr c ha a he b
theorem leN(hm:X.mg "len"=none)(ha:PA X (e :: es) t)(b:Gl X "len":=by rfl)(he:starEach (e :: es) X.env=(false,eval e X.env) :: starEach es X.env:=by rfl)(a:(backTo pos (starEach es X.env)).any (·.1)=false:=by rfl):
  PE X (.Call (.Name "len" p) (e :: es) [] pos) (tCB (λxs H Q=>∃p ys,xs= [.ref p]/\(SqL X.K H p ys\/SqT X.K H p ys)/\Q (.int ys.length) H) t):=zP z2I b hm PySem.boot_len ha (by decide) (by decide) he a
theorem foR{tg iter:Expr}{wi:TI}{g:TG}{tb:TS}(hi:PI X tg iter wi)(b:PG X tg g)(a:PSs X body tb)(hp:PassesOwn (model X.prog X.w) X.A X.env X.xe:=by exact PassesOwn.never)(hc:X.calm=true:=by rfl)
  (hs:∀x,foldedSetIterable iter X.env x=pure x:=by intro _;rfl):PS X (.For tg iter body [] pos) (zah wi g tb):=zdT hp hc hi b a hs
theorem z7h{c:Expr}{tc:TT}{tb:TS}(hc:PT X c tc)(a:PSs X body tb)(hp:PassesOwn (model X.prog X.w) X.A X.env X.xe:=by exact PassesOwn.never):PS X (.While c body [] pos) (z1q tc tb):=zbs hp hc a
theorem apP{o:Expr}{to:TE}{apos ae:Pos}(a:PE X o to)(ha:PA X (e :: es) t)(d:attributeBase o "append" X.env (eval o X.env)=eval o X.env:=by rfl)
  (c:((backTo ae (starEach (e :: es) X.env)).all (λx=> !x.1) && (backToKw ae (keywordEach [] X.env)).all (λx=>x.1.isSome)
   && decide ((e :: es).length + ([]:List Keyword).length + (if([]:List Keyword).isEmpty then 0 else 1) < 30))=true:=by rfl)
  (b:(apos.endLine == ae.line)=true:=by rfl) (hs:starEach (e :: es) X.env=(false,eval e X.env) :: starEach es X.env:=by rfl) (hplain:(backTo ae (starEach es X.env)).any (·.1)=false:=by rfl):
  PE X (.Call (.Attribute o "append" apos) (e :: es) [] ae) (tBM X.K "list" z9m to t):=ky wU PySem.F.slot_list_append PySem.F.type_list_append zad a ha d c b hs hplain
end
section
variable{P:Program}{w:World}{K:W.Frag}{mg:Str->Option Value}{base:Heap}
def BodyOk(P:Program)(w:World)(K:W.Frag)(mg:Str->Option Value)(base:Heap)(N:List Str)(qual:Str)(st:Stmt)(k:Nat)(f:Addr)(vs:List V)(H:Hp)(Q:VK)(E:XK):Prop:=
 ∀(ac:Value) (A:Around) (outer:List Env) (s:Shared),Room k (A.deeper (envOfC qual (zi st) s.heap.objs.size f ac))->
  ∃t,PSs (z36 CX0 P w K mg base N qual (zi st) f ac A outer s H E).nox (jO st) t/\t {nx:=λ_ H'=>Q .non H',rt:=Q} (start N vs) H
def Fun.okB{qual:Str}{st:Stmt}{f:Addr}{fd:FuncData}{k:Nat}(F:Fun K x qual st f fd)(S:FnScope N ps (zi st))(len:∀vs H Q E,sp vs H Q E->vs.length=ps.length)
  (a:∀vs H Q E,sp vs H Q E->BodyOk P w K mg base N qual st k f vs H Q E):FnOk P w K mg base CX0 (k + 1) f fd ps sp:=
 F.ok S len λac A outer s H vs Q E hr h=>a vs H Q E h ac A outer s hr
end
theorem v0(a:X.N[0]? =some x:=by rfl)(c:Vis X.env.scope x:=by first | exact w02 rfl | exact QI (w02 rfl) | exact QI (QI rfl))(hd:(x == ("__debug__":Str))=false:=by decide)(b:(x == ("__classdict__":Str))=false:=by decide):PE X (.Name x pos) (z7c 0):=z2s a c hd b
theorem v1(a:X.N[1]? =some x:=by rfl)(c:Vis X.env.scope x:=by first | exact w02 rfl | exact QI (w02 rfl) | exact QI (QI rfl))(hd:(x == ("__debug__":Str))=false:=by decide)(b:(x == ("__classdict__":Str))=false:=by decide):PE X (.Name x pos) (z7c 1):=z2s a c hd b
theorem v2(a:X.N[2]? =some x:=by rfl)(c:Vis X.env.scope x:=by first | exact w02 rfl | exact QI (w02 rfl) | exact QI (QI rfl))(hd:(x == ("__debug__":Str))=false:=by decide)(b:(x == ("__classdict__":Str))=false:=by decide):PE X (.Name x pos) (z7c 2):=z2s a c hd b
theorem v3(a:X.N[3]? =some x:=by rfl)(c:Vis X.env.scope x:=by first | exact w02 rfl | exact QI (w02 rfl) | exact QI (QI rfl))(hd:(x == ("__debug__":Str))=false:=by decide)(b:(x == ("__classdict__":Str))=false:=by decide):PE X (.Name x pos) (z7c 3):=z2s a c hd b
theorem v4(a:X.N[4]? =some x:=by rfl)(c:Vis X.env.scope x:=by first | exact w02 rfl | exact QI (w02 rfl) | exact QI (QI rfl))(hd:(x == ("__debug__":Str))=false:=by decide)(b:(x == ("__classdict__":Str))=false:=by decide):PE X (.Name x pos) (z7c 4):=z2s a c hd b
theorem v5(a:X.N[5]? =some x:=by rfl)(c:Vis X.env.scope x:=by first | exact w02 rfl | exact QI (w02 rfl) | exact QI (QI rfl))(hd:(x == ("__debug__":Str))=false:=by decide)(b:(x == ("__classdict__":Str))=false:=by decide):PE X (.Name x pos) (z7c 5):=z2s a c hd b
def zA{n:Nat}(h:Nat.ble n 1000000=true):n<=sizeLine:=jb (Nat.le_of_ble_eq_true h)
end L2

namespace Cn
open PySem L2
inductive Side where
 | nm (s:Str) | nu (i:Int)
noncomputable def Side.v:Side->V
 | .nm s=> .str s
 | .nu i=> .int i
def Side.ok(hs:List Str):Side->Prop
 | .nm s=>s∈hs
 | .nu _=>True
noncomputable def Side.cols:Side->List Str
 | .nm s=> [s]
 | .nu _=> []
inductive Cond where
 | less (a b:Side) | same (a b:Side) | no (c:Cond) | an (c d:Cond) | or (c d:Cond)
namespace Cond
noncomputable def size:Cond->Nat
 | .less _ _=>1
 | .same _ _=>1
 | .no c=>c.size + 1
 | .an c d=>c.size + d.size + 1
 | .or c d=>c.size + d.size + 1
noncomputable def leaf:Cond->Bool
 | .less _ _=>true
 | .same _ _=>true
 | _=>false
def ok(hs:List Str):Cond->Prop
 | .less a b=>a.ok hs/\b.ok hs
 | .same a b=>a.ok hs/\b.ok hs
 | .no c=>c.ok hs
 | .an c d=>c.ok hs/\d.ok hs
 | .or c d=>c.ok hs/\d.ok hs
noncomputable def cols:Cond->List Str
 | .less a b=>a.cols ++ b.cols
 | .same a b=>a.cols ++ b.cols
 | .no c=>c.cols
 | .an c d=>c.cols ++ d.cols
 | .or c d=>c.cols ++ d.cols
theorem size_pos(c:Cond):1<=c.size:=by
 cases c <;> simp only [size] <;> lia
theorem z0n(a:Side):a.cols.length<=1:=by
 cases a <;> simp [Side.cols]
theorem cols_le:∀c:Cond,c.cols.length<=2 * c.size
 | .less a b=>by
  have h1:=z0n a;have h2:=z0n b;simp only [cols,size,wg];lia
 | .same a b=>by
  have h1:=z0n a;have h2:=z0n b;simp only [cols,size,wg];lia
 | .no c=>by
  have:=cols_le c;simp only [cols,size];lia
 | .an c d=>by
  have h1:=cols_le c;have h2:=cols_le d;simp only [cols,size,wg];lia
 | .or c d=>by
  have h1:=cols_le c;have h2:=cols_le d;simp only [cols,size,wg];lia
end Cond
noncomputable def num(hs:List Str)(rs:List Int):Side->Int
 | .nm s=>rs.getD (hs.idxOf s) 0
 | .nu i=>i
noncomputable def ev(hs:List Str)(rs:List Int):Cond->Bool
 | .less a b=>decide (num hs rs a < num hs rs b)
 | .same a b=>decide (num hs rs a=num hs rs b)
 | .no c=> !ev hs rs c
 | .an c d=>ev hs rs c && ev hs rs d
 | .or c d=>ev hs rs c || ev hs rs d
def zC(H:Hp):Cond->V->Prop
 | .less a b,v=>∃p,v= .ref p/\H p=some (.tup [.str "less",a.v,b.v])
 | .same a b,v=>∃p,v= .ref p/\H p=some (.tup [.str "same",a.v,b.v])
 | .no c,v=>∃p x,v= .ref p/\H p=some (.tup [.str "not",x])/\zC H c x
 | .an c d,v=>∃p x y,v= .ref p/\H p=some (.tup [.str "and",x,y])/\zC H c x/\zC H d y
 | .or c d,v=>∃p x y,v= .ref p/\H p=some (.tup [.str "or",x,y])/\zC H c x/\zC H d y
variable{H:Hp}
theorem zC.mono{H':Hp}(t:∀b xs,H b=some (.tup xs)->H' b=some (.tup xs)):∀{c:Cond} {v:V},zC H c v->zC H' c v
 | .less _ _,_,h=>by
  obtain⟨p,rfl,h⟩:=h;exact⟨p,rfl,t _ _ h⟩
 | .same _ _,_,h=>by
  obtain⟨p,rfl,h⟩:=h;exact⟨p,rfl,t _ _ h⟩
 | .no _,_,h=>by
  obtain⟨p,x,rfl,h,h1⟩:=h;exact⟨p,x,rfl,t _ _ h,h1.mono t⟩
 | .an _ _,_,h=>by
  obtain⟨p,x,y,rfl,h,h1,h2⟩:=h;exact⟨p,x,y,rfl,t _ _ h,h1.mono t,h2.mono t⟩
 | .or _ _,_,h=>by
  obtain⟨p,x,y,rfl,h,h1,h2⟩:=h;exact⟨p,x,y,rfl,t _ _ h,h1.mono t,h2.mono t⟩
variable{c:Cond}
theorem zC.same{H':Hp}{v:V}(e:zw H H')(h:zC H c v):zC H' c v:=h.mono λb xs q=>e b _ q
theorem zC.ref{v:V}(h:zC H c v):∃p xs,v= .ref p/\H p=some (.tup xs):=by
 cases c with
 | less a b=>obtain⟨p,rfl,h⟩:=h;exact⟨p,_,rfl,h⟩
 | same a b=>obtain⟨p,rfl,h⟩:=h;exact⟨p,_,rfl,h⟩
 | no c=>obtain⟨p,x,rfl,h,_⟩:=h;exact⟨p,_,rfl,h⟩
 | an c d=>obtain⟨p,x,y,rfl,h,_⟩:=h;exact⟨p,_,rfl,h⟩
 | or c d=>obtain⟨p,x,y,rfl,h,_⟩:=h;exact⟨p,_,rfl,h⟩
theorem zC.head{v:V}(h:zC H c v):∃(p:Addr) (x:Str) (xs:List V),v= .ref p/\H p=some (.tup (.str x :: xs))/\inV (.str x) [.str "less",.str "same"]=c.leaf:=by
 cases c with
 | less a b=>obtain⟨p,rfl,h⟩:=h;exact⟨p,_,_,rfl,h,(by show inV _ _=_;first | exact(by decide +kernel:inV (.str "less") [.str "less",.str "same"]=true) | exact(by decide +kernel:inV (.str "same") [.str "less",.str "same"]=true) | exact(by decide +kernel:inV (.str "not") [.str "less",.str "same"]=false) | exact(by decide +kernel:inV (.str "and") [.str "less",.str "same"]=false) | exact(by decide +kernel:inV (.str "or") [.str "less",.str "same"]=false))⟩
 | same a b=>obtain⟨p,rfl,h⟩:=h;exact⟨p,_,_,rfl,h,(by show inV _ _=_;first | exact(by decide +kernel:inV (.str "less") [.str "less",.str "same"]=true) | exact(by decide +kernel:inV (.str "same") [.str "less",.str "same"]=true) | exact(by decide +kernel:inV (.str "not") [.str "less",.str "same"]=false) | exact(by decide +kernel:inV (.str "and") [.str "less",.str "same"]=false) | exact(by decide +kernel:inV (.str "or") [.str "less",.str "same"]=false))⟩
 | no c=>obtain⟨p,x,rfl,h,_⟩:=h;exact⟨p,_,_,rfl,h,(by show inV _ _=_;first | exact(by decide +kernel:inV (.str "less") [.str "less",.str "same"]=true) | exact(by decide +kernel:inV (.str "same") [.str "less",.str "same"]=true) | exact(by decide +kernel:inV (.str "not") [.str "less",.str "same"]=false) | exact(by decide +kernel:inV (.str "and") [.str "less",.str "same"]=false) | exact(by decide +kernel:inV (.str "or") [.str "less",.str "same"]=false))⟩
 | an c d=>obtain⟨p,x,y,rfl,h,_⟩:=h;exact⟨p,_,_,rfl,h,(by show inV _ _=_;first | exact(by decide +kernel:inV (.str "less") [.str "less",.str "same"]=true) | exact(by decide +kernel:inV (.str "same") [.str "less",.str "same"]=true) | exact(by decide +kernel:inV (.str "not") [.str "less",.str "same"]=false) | exact(by decide +kernel:inV (.str "and") [.str "less",.str "same"]=false) | exact(by decide +kernel:inV (.str "or") [.str "less",.str "same"]=false))⟩
 | or c d=>obtain⟨p,x,y,rfl,h,_⟩:=h;exact⟨p,_,_,rfl,h,(by show inV _ _=_;first | exact(by decide +kernel:inV (.str "less") [.str "less",.str "same"]=true) | exact(by decide +kernel:inV (.str "same") [.str "less",.str "same"]=true) | exact(by decide +kernel:inV (.str "not") [.str "less",.str "same"]=false) | exact(by decide +kernel:inV (.str "and") [.str "less",.str "same"]=false) | exact(by decide +kernel:inV (.str "or") [.str "less",.str "same"]=false))⟩
theorem z02{l:Addr}{o:HO}(hl:H l=none):∀b xs,H b=some (.tup xs)->(upd H l o) b=some (.tup xs):=λb xs h=>by
 rw [zl (zq h hl)];exact h
noncomputable def apf(hs:List Str)(rs:List Int):Cond->Bool->Bool
 | .no _,b=> !b
 | .an _ d,b=>b && ev hs rs d
 | .or _ d,b=>b || ev hs rs d
 | _,b=>b
noncomputable def wgt:Cond->Nat
 | .an _ d=>d.size + 1
 | .or _ d=>d.size + 1
 | _=>1
theorem zC.down{p:Addr}{x:V}{xs:List V}(hs:List Str)(rs:List Int)(h:zC H c (.ref p))(hp:H p=some (.tup (x :: xs)))(lf:c.leaf=false)(ok:c.ok hs):
  ∃(y:V) (r:List V) (d:Cond),xs=y :: r/\zC H d y/\d.ok hs/\d.size + wgt c=c.size/\apf hs rs c (ev hs rs d)=ev hs rs c:=by
 cases c with
 | less a b=>cases lf
 | same a b=>cases lf
 | no c=>
  obtain⟨p',y,e,h,h1⟩:=h;cases e;rw [hp]at h;cases h;exact⟨_,_,c,rfl,h1,ok,rfl,rfl⟩
 | an c d=>
  obtain⟨p',y,z,e,h,h1,h2⟩:=h;cases e;rw [hp]at h;cases h;exact⟨_,_,c,rfl,h1,ok.1,by simp only [wgt,Cond.size];lia,rfl⟩
 | or c d=>
  obtain⟨p',y,z,e,h,h1,h2⟩:=h;cases e;rw [hp]at h;cases h;exact⟨_,_,c,rfl,h1,ok.1,by simp only [wgt,Cond.size];lia,rfl⟩
noncomputable def unw(hs:List Str)(rs:List Int)(fs:List (V×Cond))(b:Bool):Bool:=fs.foldr (λf b=>apf hs rs f.2 b) b
noncomputable def wt(fs:List (V×Cond)):Nat:=(fs.map λf=>wgt f.2).sum
theorem z72(hs:List Str)(rs:List Int)(fs:List (V×Cond))(f:V×Cond)(b:Bool):unw hs rs (fs ++ [f]) b=unw hs rs fs (apf hs rs f.2 b):=by simp [unw]
theorem z9t(fs:List (V×Cond))(f:V×Cond):wt (fs ++ [f])=wt fs + wgt f.2:=by simp [wt]
theorem zc9:∀fs:List (V×Cond),fs.length<=wt fs
 | []=>ww _
 | f :: r=>by
  have h1:=zc9 r;have h2:1<=wgt f.2:=by cases f.2 <;> simp only [wgt] <;> lia
  have a:wt (f :: r)=wgt f.2 + wt r:=by simp [wt]
  rw [a,wN]
  lia
end Cn

namespace Rw
open PySem L2
noncomputable abbrev refs(rs:List (Addr×List Int)):List V:=rs.map λr=>V.ref r.1
def RowsAt(H:Hp)(p:Addr)(rs:List (Addr×List Int)):Prop:=H p=some (.lst (refs rs))/\∀r∈rs,r.1≠p/\H r.1=some (.lst (r.2.map V.int))
variable{H:Hp}{p:Addr}{rs:List (Addr×List Int)}
theorem RowsAt.same{H':Hp}(h:RowsAt H p rs)(e:zw H H'):RowsAt H' p rs:=⟨e _ _ h.1,λr m=>⟨(h.2 r m).1,e _ _ (h.2 r m).2⟩⟩
def RowsAt.kp{H':Hp}{l:Addr}(h:RowsAt H p rs)(e:Kp l H H')(np:p≠l)(a:∀r∈rs,r.1≠l):RowsAt H' p rs:=⟨e _ _ np h.1,λr m=>⟨(h.2 r m).1,e _ _ (a r m) (h.2 r m).2⟩⟩
theorem yB(h:H p=some (.lst [])):RowsAt H p []:=⟨h,λ_ z=>by cases z⟩
theorem RowsAt.push{q:Addr}{x:List Int}(h:RowsAt H p rs)(a:q≠p)(hq:H q=some (.lst (x.map V.int))):
  RowsAt (upd H p (.lst ((refs rs) ++ [V.ref q]))) p (rs ++ [(q,x)]):=by
 refine⟨by rw [zj];simp [refs],λr m=> ?_⟩;rcases wB.mp m with m | m
 ·exact⟨(h.2 r m).1,by rw [zl (h.2 r m).1];exact(h.2 r m).2⟩
 ·rw [wx.mp m];exact⟨a,by rw [zl a];exact hq⟩
theorem RowsAt.len:(refs rs).length=rs.length:=w9 _
variable{i:Nat}
theorem jZ(h:i < rs.length):(refs rs)[i]? =some (V.ref rs[i].1):=by
 rw [wF,wa h]
 rfl
theorem int_at{xs:List Int}(h:i < xs.length):(xs.map V.int)[i]? =some (.int (xs.getD i 0)):=by
 rw [wF,wa h,wb,wa h]
 rfl
theorem z6v(h:i < rs.length):atI (refs rs) (0 + (i:Int))=some (V.ref rs[i].1):=by
 rw [w0N];exact zW (jZ h)
end Rw

namespace L2
open PySem PySem.Spec PyProof.Rows
variable{X:Cx}{H:Hp}{kvs:List (Key×V)}
section
variable{pins:List (Addr×Obj)}{σ:St}{s:Shared}{a:Addr}{A:Around}{E:Value->Shared->Prop}
theorem zbE{k:Key}{d:V}{u r:Value}{Q:Value->Shared->Prop}(I:Inv X pins σ H s)(e:H a=some (.dK kvs))(hl:kvs.length < sizeLine)(i:RelV (kV k) u)(j:RelV d r)
  (h1:∀v f s',jV kvs k=some v->Inv X pins σ H s'->RelV v f->Q f s') (h2:∀s',jV kvs k=none->Inv X pins σ (upd H a (.dK (putK kvs k d))) s'->Q r s'):
  wpAny (model X.prog X.w) A (call (.builtin "dict.setdefault") [.ref a,u,r]) Q E s:=by
 obtain⟨z,hd,vs,rel,b⟩:=zaR I.hok e;have hz:vs.length<=sizeLine:=by rw [<-rel.length];exact z
 refine call_meetsIn PySem.F.slot_dict_setdefault b.typeIs PySem.F.entry_dict_setdefault (PySem.F.args_dict_setdefault_3 _ _ _) (kt_meets_setdefault (jw X.prog X.w) a (z7s i) hd r) ⟨vs,b,hz,λv' h=> ?_,λhn h' c hs=> ?_⟩
 ·have q:=rel.val k;rw [h]at q;cases l:jV kvs k with
  | none=>rw [l]at q;exact q.elim
  | some v=>rw [l]at q;exact h1 v v' _ l (I.tok _) q
 ·have q:=rel.val k;rw [hn]at q;have l:jV kvs k=none:=by
   cases l:jV kvs k with
   | none=>rfl
   | some v=>rw [l]at q;exact q.elim
  refine h2 _ l ?_;have n:(putK kvs k d).length<=sizeLine:=by have:=z0I kvs k d;lia
  have he:∃q,h'.get? a=some q:=let ⟨q,_,_,hq,_⟩:=c;⟨q,hq⟩
  exact z5T I (by rw [e];exact w0m) hs he (zch n hd (rel.put k j) c)
end
def zeS(td ty tx:TE):TE:=λσ H Q=>td σ H λx H1=>∃a,x= .ref a/\IsD H1 a/\ty σ H1 λy H2=>tx σ H2 λz b=>∃kvs k,b a=some (.dK kvs)/\y=kV k/\kvs.length < sizeLine/\
 (∀v,jV kvs k=some v->Q v b)/\(jV kvs k=none->Q z (upd b a (.dK (putK kvs k z))))
section
variable{o e f:Expr}{td ty tx:TE}{apos ae:Pos}
theorem z8v(p:PE X o td)(he:PE X e ty)(A:PE X f tx)(m:M2 X o "setdefault" apos e f ae):PE X (.Call (.Attribute o "setdefault" apos) [e,f] [] ae) (zeS td ty tx):=by
 intro pins s σ H Q I h;refine wpAny_Call_method m.base m.few m.line PySem.F.plainAttrs_dict PySem.F.slot_dict_setdefault PySem.F.type_dict_setdefault (thn (p pins s σ H _ I h) ?_);rintro u s1 ⟨x,H1,c,K,a,ex,d,n⟩;subst ex;obtain rfl:u=Value.ref a:=K;obtain⟨J,B,_⟩:=zbe c d;refine⟨J,B,?_⟩;rw [m.trees];refine w0U rfl (Calls.evalArgs_plain (Qj (thn (he pins s1 σ H1 _ c n) λN s2 ⟨y,H2,M,G,D⟩=>
  Qj (thn (A pins s2 σ H2 _ M D) λR P ⟨z,j,q,i,kvs,k,t,w,hl,C,E⟩=>w0e ?_))))
 subst w;exact zbE q t hl G i (λv O L l b r=>⟨v,j,b,r,C v l⟩) λL l b=>⟨z,_,b,i,E l⟩
end
noncomputable def Itd(d:Addr)(o:Obj)(kvs:List (Key×V)):It:=
 ⟨λi H=>H d=some (.frz o (.dK kvs))/\i < kvs.length,λi H x H'=>H'=H/\∃p,kvs[i]? =some p/\x=kV p.1,λi H=>H d=some (.frz o (.dK kvs))/\kvs.length<=i⟩
variable{P:Program}{w:World}
theorem zco{k:Key}{u:Value}(h:(jw P w).is k u=true):RelV (kV k) u:=by
 rcases jx (show z3C k u=true from h)with⟨i,t,rfl,rfl⟩ | ⟨y,t,rfl,rfl⟩
 ·exact⟨t,rfl⟩
 ·exact⟨t,rfl⟩
variable{d:Addr}{o:Obj}{es:Array DictEntry}{ep:Nat}
theorem zbP{h:Heap}(ok:HOk P w H h)(e:H d=some (.frz o (.dK kvs)))(j:o.data= .dict es ep):
  ∃vs,KV kvs vs/\h.DictAt (jw P w) d vs ep:=by
 obtain⟨i,z,n,vs,rel,f⟩:=ok d _ e;obtain⟨l,c⟩:=f.dictAt;obtain⟨o',q,a,p,b,r⟩:=id c
 rw [i]at a;cases a;rw [j]at b
 cases b
 exact⟨vs,rel,c⟩
variable{tg:Expr}
theorem zac{K:W.Frag}(d it:Addr)(B:o.data= .dict es ep):
  Turn P w K tg (Itd d o kvs) [it] it (λi h=>h.IsKeyIter it d i kvs.length ep) where
 mem:=by simp
 obj:=λi h st b a=>by
  have e:b=it:=by simpa using a
  subst e;obtain⟨o,e,c,d⟩:=st;exact⟨o,e,λv z=>by rw [d]at z;cases z⟩
 keep:=λi h h' st k=>st.at λo e=>k it (by simp) o e
 item:=by
  intro X j y A hc i pins s σ H E I f st t;subst j y A;obtain⟨r,hi⟩:=t;obtain⟨vs,rel,n⟩:=zbP I.hok r B;have hl:=rel.length;obtain⟨f0,f1,f2,l,x,u⟩:=f it (by simp);obtain⟨p,hp⟩:∃p,vs[i]? =some p:=⟨vs[i]'(by lia),wa (by lia)⟩
  obtain⟨q,hq⟩:∃q,kvs[i]? =some q:=⟨kvs[i],wa hi⟩
  have F:q.1=p.1:=by
   have D:(kvs.map (·.1))[i]? =some q.1:=by rw [wF,hq];rfl
   rw [KV.keys rel,wF,hp]at D;exact(Option.some.inj D).symm
  rw [hl]at st;refine wpAny_pyNext_dict_item st n (k:=p.1) (v:=p.2) hp λkey h' M C J=> ?_
  have L:Inv X pins σ H {s with heap:=h'}:=I.turned (t':=s.toks) (λb o a e=>(J.2 b a).trans e) f0 f1 l x u;obtain⟨o',e,c,G⟩:=id C;refine⟨key,rfl,z7x (s:={s with heap:=h'}) e c G (by decide) ⟨kV q.1,H,L,?_,⟨rfl,q,hq,rfl⟩,by rw [hl];exact C,λb a=>(f b a).1⟩⟩;rw [F];exact zco M
 done:=by
  intro X j y A hc i pins s σ H E I f st t;subst j y A;obtain⟨r,hi⟩:=t;obtain⟨vs,rel,n⟩:=zbP I.hok r B;have hl:=rel.length;obtain⟨f0,f1,f2,l,x,u⟩:=f it (by simp);rw [hl]at st;exact wpAny_pyNext_dict_end (I.ok.hd hc) st n (w14 (by lia)) λh' N=>⟨rfl,I.turned (t':=s.toks) (λb o a e=>N b o a e) f0 f1 l x u⟩
 self:=λ_ _ _ _ _ st h=>wpAny_pyIter_keyiter st h
def zfm(tl:TE):TI:=λσ H R=>tl σ H λx H1=>∃d kvs,x= .ref d/\H1 d=some (.dK kvs)/\∀o,R (Itd d o kvs) (upd H1 d (.frz o (.dK kvs)))
theorem zcv{l:Expr}{tl:TE}(hl:PE X l tl):PI X tg l (zfm tl):=by
 intro pins s σ H R I h;refine thn (hl pins s σ H _ I h) ?_;rintro v s1 ⟨x,H1,j,r1,n⟩;obtain⟨d,kvs,e,hq,q⟩:=n;subst e;cases r1;obtain⟨z,hd,vs,rel,i⟩:=zaR j.hok hq;obtain⟨ep,f⟩:=i.dictAt;obtain⟨o,es,c,t,p,_⟩:=id f
 refine wpAny_pyIter_dict hd f ?_;have a:Inv X pins σ (upd H1 d (.frz o (.dK kvs))) {s1 with heap:=s1.heap,toks:=s1.toks}:=j.write (x:=d) (e:=d) (by rw [hq];exact w0m) (.inl rfl) (λb u _ q=>q) ⟨o,c⟩ ⟨c,z,hd,vs,rel,i⟩;rw [<-rel.length];refine⟨s1.heap.objs.size,[s1.heap.objs.size],_,_,upd H1 d (.frz o (.dK kvs)),rfl,a.kept (t':=s1.toks) λb o e=>wo _ e,zac d _ p,⟨_,q5 _ rfl,rfl,rfl⟩,λb r=> ?_,q o⟩;have e:b=s1.heap.objs.size:=by simpa using r
 subst e;exact a.fpOk (ww _) (a.hok.fresh (ww _))
theorem z8g{σ:St}{ix:List Nat}{te:TE}{Q:List V->Hp->Prop}(a:Nat->List V->Hp->Prop)(h0:a 0 [] H)
  (hl:∀i ys H,i<=kvs.length->a i ys H->H d=some (.frz o (.dK kvs))/\ys.length < sizeLine)
  (hs:∀(i:Nat) p ys H,kvs[i]? =some p->a i ys H->te (sub σ ix (some (kV p.1))) H λy b=>a (i + 1) (ys ++ [y]) b) (hd:∀ys H,a kvs.length ys H->Q ys H):z0h (Itd d o kvs) σ ix z7z te Q H:=by
 refine⟨λi m ys H=>m=kvs.length - i/\i<=kvs.length/\a i ys H,⟨_,rfl,qQ _,h0⟩,?_⟩;rintro i m ys H ⟨rfl,hi,p⟩;obtain⟨q,hz⟩:=hl i ys H hi p;refine⟨hz,?_⟩;by_cases ag:i < kvs.length
 ·refine .inr ⟨⟨q,ag⟩,λy b=>a (i + 1) (ys ++ [y]) b,λH2=>False,λy b z=>⟨kvs.length - (i + 1),by lia,rfl,ag,z⟩,λH2 z=>z.elim,λx H' y=> ?_⟩;obtain⟨e,y,f,c⟩:=y;subst e c;exact z8t (B:=False) (hs i y ys _ f p)
 ·have e:i=kvs.length:=by lia
  subst e;exact .inl ⟨⟨q,ww _⟩,hd ys H p⟩
end L2

namespace L2
open PySem PySem.Spec PyProof.Rows PySem.W
def kOk(n:Nat)(k:Nat->Int){α:Type}(Q:α->Prop):KasT α->Prop
 | .ret a=>Q a
 | .ask i j f=>i < n/\j < n/\kOk n k Q (f (decide (k i < k j)))
def z16{n:Nat}{k:Nat->Int}{α β:Type}{Q:β->Prop}{f:α->KasT β}:∀{t:KasT α},kOk n k (λa=>kOk n k Q (f a)) t->kOk n k Q (t.bind f)
 | .ret _,h=>h
 | .ask _ _ _,h=>⟨h.1,h.2.1,z16 h.2.2⟩
def jW{n:Nat}{k:Nat->Int}{α:Type}{Q b:α->Prop}(hq:∀a,Q a->b a):∀{t:KasT α},kOk n k Q t->kOk n k b t
 | .ret _,h=>hq _ h
 | .ask _ _ _,h=>⟨h.1,h.2.1,jW hq h.2.2⟩
theorem z8A{n:Nat}{k:Nat->Int}{cmp:Nat->Nat->(Bool->Shared->Prop)->Shared->Prop}{s:Shared}(hc:∀i j C,i < n->j < n->C (decide (k i < k j)) s->cmp i j C s){α:Type}{Q:α->Shared->Prop}:
  ∀{t:KasT α},kOk n k (λa=>Q a s) t->t.kasWp cmp Q s
 | .ret _,h=>h
 | .ask _ _ _,h=>hc _ _ _ h.1 h.2.1 (z8A hc h.2.2)
variable{n i j:Nat}
theorem z3s{k:Nat->Int}{α:Type}{Q:α->Prop}{a b:KasT α}(hi:i < n)(d:j < n)(h1:k i < k j->kOk n k Q a)(h2:¬k i < k j->kOk n k Q b):
  kOk n k Q (.ask i j λc=>if c=true then a else b):=by
 refine⟨hi,d,?_⟩;by_cases c:k i < k j
 ·show kOk n k Q (if decide (k i < k j)=true then a else b)
  rw [wY (by simpa using c)];exact h1 c
 ·show kOk n k Q (if decide (k i < k j)=true then a else b)
  rw [wM (by simpa using c)];exact h2 c
def Rk(k:Nat->Int)(x y:Nat):Prop:=k x < k y\/(k x=k y/\x < y)
theorem Rk.trans{k:Nat->Int}{x y z:Nat}(h:Rk k x y)(h':Rk k y z):Rk k x z:=by unfold Rk at *;lia
noncomputable def at'(p:Array Nat)(i:Nat):Nat:=(p[i]?).getD 0
theorem getD_at(p:Array Nat)(i:Nat):p.getD i 0=at' p i:=by
 unfold at';simp [Array.getD_eq_getD_getElem?]
structure Ar(n m:Nat)(p:Array Nat):Prop where
 sz:p.size=n
 mn:m<=n
 id:∀i,m<=i->i < n->at' p i=i
 lo:∀i,i < m->at' p i < m
 pm:p.Perm (List.range n).toArray
variable{p:Array Nat}
theorem Ar.lt{m:Nat}(h:Ar n m p)(hi:i < n):at' p i < n:=by
 by_cases e:i < m
 ·exact wJ (h.lo i e) h.mn
 ·rw [h.id i (by lia) hi];exact hi
theorem Ar.up{m c:Nat}(h:Ar n m p)(h1:m<=c)(h2:c<=n):Ar n c p:=by
 refine⟨h.sz,h2,λi a b=>h.id i (by lia) b,λi a=> ?_,h.pm⟩;by_cases e:i < m
 ·have:=h.lo i e;lia
 ·rw [h.id i (by lia) (by lia)];exact a
def Up(k:Nat->Int)(m:Nat)(p:Array Nat):Prop:=∀i j,i < j->j < m->Rk k (at' p i) (at' p j)
def Dn(k:Nat->Int)(m:Nat)(p:Array Nat):Prop:=∀i j,i < j->j < m->Rk k (at' p j) (at' p i)
theorem z0b(a:j<=p.size)(x:Nat):at' (kas_rev p i j) x=if i<=x/\x < j then at' p (i + j - 1 - x)else at' p x:=by
 unfold at' kas_rev;rw [getElem?_mirror_all a];split <;> rfl
theorem Ar.rev{m:Nat}(h:Ar n m p)(c:j<=m):Ar n m (kas_rev p i j):=by
 have hs:j<=p.size:=by rw [h.sz];exact wP c h.mn
 refine⟨by show(mirror _ _ _ _).size=n;rw [mirror_size,h.sz],h.mn,λx a b=> ?_,λx a=> ?_,(mirror_perm _ _ _ _).trans h.pm⟩
 ·rw [z0b hs,wM (by lia),h.id x a b]
 ·rw [z0b hs];split
  ·exact h.lo _ (by lia)
  ·exact h.lo _ a
theorem Dn.rev{k:Nat->Int}{m:Nat}(A:Ar n m p)(h:Dn k m p):Up k m (kas_rev p 0 m):=by
 have hs:m<=p.size:=by rw [A.sz];exact A.mn
 intro i j b a;rw [z0b hs,z0b hs,wY (by lia),wY (by lia)];exact h _ _ (by lia) (by lia)
theorem zaJ{n:Nat}{k:Nat->Int}{p:Array Nat}:∀(f m:Nat),1<=m->m + f=n->Ar n m p->Up k m p->
  kOk n k (λb=>m<=b/\b<=n/\Ar n b p/\Up k b p) (kas_asc p f m)
 | 0,m,_,l,A,U=>⟨ww _,by lia,A,U⟩
 | f + 1,m,h1,l,A,U=>by
  show kOk n k _ (KasT.ask _ _ _)
  rw [getD_at,getD_at];have d:=A.id m (ww _) (by lia);have r:=A.lo (m - 1) (by lia);refine z3s (by rw [d];lia) (by lia) (λc=> ?_) λc=> ?_
  ·skip
   exact⟨ww _,by lia,A,U⟩
  ·skip
   refine jW (λa h=>⟨by lia,h.2⟩) (zaJ f (m + 1) (by lia) (by lia) (A.up (by lia) (by lia)) ?_);have last:Rk k (at' p (m - 1)) (at' p m):=by unfold Rk;lia
   intro i j o q;by_cases e:j < m
   ·exact U i j o e
   ·obtain rfl:j=m:=by lia
    by_cases e2:i=j - 1
    ·rw [e2];exact last
    ·exact(U i (j - 1) (by lia) (by lia)).trans last
structure Fal(k:Nat->Int)(m q:Nat)(p:Array Nat):Prop where
 qm:q + 1<=m
 fr:∀i j,i < j->j < m - (q + 1)->Rk k (at' p j) (at' p i)
 st:∀i j,i < m - (q + 1)->m - (q + 1)<=j->j < m->k (at' p j) < k (at' p i)
 eq:∀i,m - (q + 1)<=i->i < m->k (at' p i)=k (at' p (m - 1))
 or:∀i j,i < j->j < m->m - (q + 1)<=i->at' p i < at' p j
theorem Fal.dn{k:Nat->Int}{m q:Nat}(A:Ar n m p)(h:Fal k m q p):Dn k m (kas_rev p (m - (q + 1)) m)/\∀x,x < m->k (at' p (m - 1))<=k (at' (kas_rev p (m - (q + 1)) m) x):=by
 have hs:m<=p.size:=by rw [A.sz];exact A.mn
 have hq:=h.qm;have f:∀x,x < m->k (at' p (m - 1))<=k (at' p x):=λx d=>by
  by_cases e:x < m - (q + 1)
  ·have:=h.st x (m - 1) e (by lia) (by lia);lia
  ·rw [h.eq x (by lia) d];exact Int.le_refl _
 refine⟨λi j o l=> ?_,λx d=> ?_⟩
 ·rw [z0b hs,z0b hs];by_cases ei:m - (q + 1)<=i
  ·rw [wY (by lia),wY (by lia)];have a:=h.eq (m - (q + 1) + m - 1 - i) (by lia) (by lia);have b:=h.eq (m - (q + 1) + m - 1 - j) (by lia) (by lia);have c:=h.or (m - (q + 1) + m - 1 - j) (m - (q + 1) + m - 1 - i) (by lia) (by lia) (by lia);unfold Rk;lia
  ·rw [wM (show¬(m - (q + 1)<=i/\i < m) by lia)];split
   ·exact w02 (h.st _ _ (by lia) (by lia) (by lia))
   ·exact h.fr _ _ (by lia) (by lia)
 ·rw [z0b hs];split
  ·exact f _ (by lia)
  ·exact f _ d
theorem Fal.dn0{k:Nat->Int}{m:Nat}(h:Fal k m 0 p):Dn k m p/\∀x,x < m->k (at' p (m - 1))<=k (at' p x):=by
 have hq:=h.qm;refine⟨λi j b a=> ?_,λx c=> ?_⟩
 ·by_cases e:j < m - 1
  ·exact h.fr i j b e
  ·exact w02 (h.st i j (by lia) (by lia) a)
 ·by_cases e:x < m - 1
  ·have:=h.st x (m - 1) e (by lia) (by lia);lia
  ·obtain rfl:x=m - 1:=by lia
   exact Int.le_refl _
theorem Fal.step{k:Nat->Int}{m:Nat}(hm:m < n)(h:Dn k m p){y:Int}(f:∀x,x < m->y<=k (at' p x))(hl:k (at' p m) < y):Fal k (m + 1) 0 p:=by
 refine⟨by lia,λi j l e=>h i j l (by lia),λi j hi e d=> ?_,λi a b=> ?_,λi j a b c=>by lia⟩
 ·obtain rfl:j=m:=by lia
  have:=f i (by lia)
  lia
 ·obtain rfl:i=m:=by lia
  simp
theorem z46{n:Nat}{k:Nat->Int}:∀(f:Nat) (p:Array Nat) (m q:Nat),m + f=n->Ar n m p->Fal k m q p->
  kOk n k (λr=>m<=r.2.1/\r.2.1<=n/\Ar n r.2.1 r.1/\Fal k r.2.1 r.2.2 r.1) (kas_desc f p m q)
 | 0,p,m,q,u,A,F=>⟨ww _,by show m<=n;lia,A,F⟩
 | f + 1,p,m,q,u,A,F=>by
  show kOk n k _ (KasT.ask _ _ _)
  rw [getD_at,getD_at];have hq:=F.qm;have l:=A.id m (ww _) (by lia);have y:=A.lo (m - 1) (by lia);refine z3s (by rw [l];lia) (by lia) (λc=> ?_) λc=> ?_
  ·skip
   have hs:m<=p.size:=by rw [A.sz];lia
   by_cases q0:q > 0
   ·rw [wY q0];have w:Ar n m (kas_rev p (m - (q + 1)) m):=A.rev (ww _);have x:at' (kas_rev p (m - (q + 1)) m) m=at' p m:=by rw [z0b hs,wM (by lia)]
    exact jW (λa h=>⟨by lia,h.2⟩) (z46 f _ (m + 1) 0 (by lia) (w.up (by lia) (by lia)) (Fal.step (n:=n) (by lia) (F.dn A).1 (F.dn A).2 (by rw [x];exact c)))
   ·rw [wM q0];obtain rfl:q=0:=by lia
    exact jW (λa h=>⟨by lia,h.2⟩) (z46 f _ (m + 1) 0 (by lia) (A.up (by lia) (by lia)) (Fal.step (n:=n) (by lia) F.dn0.1 F.dn0.2 c))
  ·refine z3s (by lia) (by rw [l];lia) (λd=> ?_) λd=> ?_
   ·exact⟨ww _,by show m<=n;lia,A,F⟩
   ·have t:k (at' p m)=k (at' p (m - 1)):=by lia
    refine jW (λa h=>⟨by lia,h.2⟩) (z46 f _ (m + 1) (q + 1) (by lia) (A.up (by lia) (by lia)) ⟨by lia,λi j o s=> ?_,λi j hi s hm=> ?_,λi a b=> ?_,λi j o s hi=> ?_⟩)
    ·exact F.fr i j o (by lia)
    ·by_cases e:j < m
     ·exact F.st i j (by lia) (by lia) e
     ·obtain rfl:j=m:=by lia
      rw [t];exact F.st i (j - 1) (by lia) (by lia) (by lia)
    ·rw [w0Y];by_cases e:i < m
     ·rw [F.eq i (by lia) e,t]
     ·obtain rfl:i=m:=by lia
      rfl
    ·by_cases e:j < m
     ·exact F.or i j o e (by lia)
     ·obtain rfl:j=m:=by lia
      rw [l];exact A.lo i (by lia)
theorem z7e{m:Nat}{k:Nat->Int}(h1:1<=m)(A:Ar n m p)(D:Dn k m p):
  kOk n k (λr=>1<=r.1/\r.1<=n/\Ar n r.1 r.2/\Up k r.1 r.2) (kas_tail3 m n p):=by
 refine z16 (jW (λa h=> ?_) (zaJ (n - m) m h1 (by have:=A.mn;lia) (A.rev (ww _)) (D.rev A)));exact⟨by show 1<=a;lia,h.2.1,h.2.2.1,h.2.2.2⟩
theorem z3z{m:Nat}{k:Nat->Int}(h1:m + 1<=n)(A:Ar n (m + 1) p)(F:Fal k (m + 1) 0 p):
  kOk n k (λr=>1<=r.1/\r.1<=n/\Ar n r.1 r.2/\Up k r.1 r.2) (kas_descPart m n p):=by
 refine z16 (jW (λa h=> ?_) (z46 (n - (m + 1)) p (m + 1) 0 (by lia) A F));obtain⟨b1,b2,b,c⟩:=h;by_cases q0:a.2.2 > 0
 ·rw [wY q0];exact z7e (by lia) (b.rev (ww _)) (c.dn b).1
 ·rw [wM q0];obtain⟨p',d,q'⟩:=a;obtain rfl:q'=0:=by simpa using q0
  exact z7e (by have:m + 1<=d:=b1;show 1<=d;lia) b c.dn0.1
theorem z8H{n:Nat}{k:Nat->Int}{p:Array Nat}:∀(f m:Nat),1<=m->m + f=n->Ar n m p->Up k m p->
  kOk n k (λb=>m<=b/\b<=n/\Ar n b p/\Up k b p/\(b < n->k (at' p b) < k (at' p (b - 1)))) (kas_asc p f m)
 | 0,m,_,l,A,U=>⟨ww _,by lia,A,U,λh=>by lia⟩
 | f + 1,m,h1,l,A,U=>by
  show kOk n k _ (KasT.ask _ _ _)
  rw [getD_at,getD_at];have d:=A.id m (ww _) (by lia);have r:=A.lo (m - 1) (by lia);refine z3s (by rw [d];lia) (by lia) (λc=> ?_) λc=> ?_
  ·skip
   exact⟨ww _,by lia,A,U,λ_=>c⟩
  ·skip
   refine jW (λa h=>⟨by lia,h.2⟩) (z8H f (m + 1) (by lia) (by lia) (A.up (by lia) (by lia)) ?_);have last:Rk k (at' p (m - 1)) (at' p m):=by unfold Rk;lia
   intro i j o q;by_cases e:j < m
   ·exact U i j o e
   ·obtain rfl:j=m:=by lia
    by_cases e2:i=j - 1
    ·rw [e2];exact last
    ·exact(U i (j - 1) (by lia) (by lia)).trans last
theorem zbq{k:Nat->Int}(hn:1<=n)(A:Ar n 1 p):kOk n k (λr=>1<=r.1/\r.1<=n/\Ar n r.1 r.2/\Up k r.1 r.2) (kas_count n p):=by
 refine z16 (jW (λm h=> ?_) (z8H (n - 1) 1 (ww _) (by lia) A (λi j a b=>by lia)));obtain⟨b1,b2,d,f,t⟩:=h;by_cases e:m=n
 ·rw [wY (by simpa using e)];exact⟨b1,b2,d,f⟩
 rw [wM (by simpa using e)];have hs:m<=p.size:=by rw [A.sz];exact b2
 have l:=t (by lia);by_cases e1:m > 1
 ·rw [wY e1]
  show kOk n k _ (KasT.ask _ _ _)
  rw [getD_at,getD_at];refine z3s (d.lt (by lia)) (d.lt (by lia)) (λc=> ?_) λc=> ?_
  ·exact⟨b1,b2,d,f⟩
  ·have s:Ar n m (kas_rev p 0 m):=d.rev (ww _);have o:∀i,i < m->k (at' p i)=k (at' p (m - 1)):=λi hi=>by
    have h0:k (at' p 0)<=k (at' p i):=by
     by_cases e:i=0
     ·rw [e];exact Int.le_refl _
     ·have:=f 0 i (by lia) hi;unfold Rk at this;lia
    have h1:k (at' p i)<=k (at' p (m - 1)):=by
     by_cases e:i=m - 1
     ·rw [<-e];exact Int.le_refl _
     ·have:=f i (m - 1) (by lia) (by lia);unfold Rk at this;lia
    lia
   have D:Dn k m (kas_rev p 0 m):=λi j w u=>by
    rw [z0b hs,z0b hs,wY (by lia),wY (by lia)];exact f _ _ (by lia) (by lia)
   refine z3z (by lia) (s.up (by lia) (by lia)) (Fal.step (n:=n) (y:=k (at' p (m - 1))) (by lia) D (λx q=> ?_) ?_)
   ·rw [z0b hs,wY (by lia)];have:=o (0 + m - 1 - x) (by lia)
    lia
   ·rw [z0b hs,wM (by lia)];exact l
 ·rw [wM e1];obtain rfl:m=1:=by lia
  refine z3z (by lia) (d.up (by lia) (by lia)) (Fal.step (n:=n) (y:=k (at' p 0)) (by lia) (λi j a b=>by lia) (λx q=> ?_) l);obtain rfl:x=0:=by lia
  exact Int.le_refl _
theorem z4H{n m:Nat}{k:Nat->Int}{p:Array Nat}(hm:m < n)(A:Ar n m p)(U:Up k m p):∀(f l r:Nat),l<=r->r<=m->r - l<=f->
  (∀i,i < l->k (at' p i)<=k (at' p m))->(∀i,r<=i->i < m->k (at' p m) < k (at' p i))->
  kOk n k (λd=>d<=m/\(∀i,i < d->k (at' p i)<=k (at' p m))/\∀i,d<=i->i < m->k (at' p m) < k (at' p i)) (kas_place p m f l r)
 | 0,l,r,h1,h2,h,a,b=>⟨by lia,a,λi x y=>b i (by lia) y⟩
 | f + 1,l,r,h1,h2,h,a,b=>by
  unfold kas_place;by_cases e:l≥r
  ·rw [wY e];exact⟨by lia,a,λi x y=>b i (by lia) y⟩
  rw [wM e,getD_at,getD_at];refine z3s (A.lt hm) (A.lt (by lia)) (λc=> ?_) λc=> ?_
  ·refine z4H hm A U f l ((l + r) / 2) (by lia) (by lia) (by lia) a λi x y=> ?_
   by_cases e2:i=(l + r) / 2
   ·rw [e2];exact c
   ·have:=U ((l + r) / 2) i (by lia) y;unfold Rk at this;lia
  ·refine z4H hm A U f ((l + r) / 2 + 1) r (by lia) (by lia) (by lia) (λi x=> ?_) b;by_cases e2:i=(l + r) / 2
   ·rw [e2];lia
   ·have:=U i ((l + r) / 2) (by lia) (by lia);unfold Rk at this;lia
theorem zax{m d:Nat}(hm:m < p.size)(hd:d<=m)(x:Nat):at' (bubble p m d) x=if x=m - d then at' p m else if m - d < x/\x<=m then at' p (x - 1)else at' p x:=by
 unfold at';rw [getElem?_bubble hm d hd];split
 ·rfl
 ·split <;> rfl
theorem zb4{n:Nat}{k:Nat->Int}:∀(f:Nat) (p:Array Nat) (m:Nat),m + f=n->Ar n m p->Up k m p->
  kOk n k (λp'=>Ar n n p'/\Up k n p') (kas_bin f p m)
 | 0,p,m,h,A,U=>by
  obtain rfl:m=n:=by lia
  exact⟨A,U⟩
 | f + 1,p,m,h,A,U=>by
  have hs:m < p.size:=by rw [A.sz];lia
  have e:=A.id m (ww _) (by lia);refine z16 (jW (λl hl=> ?_) (z4H (by lia) A U m 0 m (by lia) (ww _) (by lia) (λi x=>by lia) (λi x y=>by lia)));obtain⟨t,r,o⟩:=hl;have c:∀x,at' (bubble p m (m - l)) x=if x=l then at' p m else if l < x/\x<=m then at' p (x - 1)else at' p x:=λx=>by
   rw [zax hs (by lia),show m - (m - l)=l by lia]
  refine zb4 f _ (m + 1) (by lia) ⟨by rw [bubble_size,A.sz],by lia,λi a b=> ?_,λi a=> ?_,(bubble_perm _ _ _).trans A.pm⟩ λi j u s=> ?_
  ·rw [c,wM (by lia),wM (by lia)];exact A.id i (by lia) b
  ·rw [c];split
   ·lia
   ·split
    ·have:=A.lo (i - 1) (by lia);lia
    ·have:=A.lo i (by lia);lia
  ·rw [c,c];have d:∀x,x < m->at' p x < at' p m:=λx q=>by rw [e];exact A.lo x q
   by_cases e1:i=l
   ·rw [wY e1,wM (by lia),wY (by lia)];exact w02 (o (j - 1) (by lia) (by lia))
   ·rw [wM e1];by_cases e2:l < i/\i<=m
    ·rw [wY e2,wM (by lia),wY (by lia)];exact U _ _ (by lia) (by lia)
    ·rw [wM e2];by_cases e3:j=l
     ·rw [wY e3];have a:=r i (by lia);have b:=d i (by lia);unfold Rk;lia
     ·rw [wM e3];by_cases e4:l < j/\j<=m
      ·rw [wY e4];exact U _ _ (by lia) (by lia)
      ·rw [wM e4];exact U _ _ (by lia) (by lia)
theorem Ar.all:Ar n 0 (List.toArray (List.range n)):=by
 refine⟨by simp,qQ _,λi _ h=> ?_,λi h=>by lia,Array.Perm.refl _⟩;unfold at';simp [h]
theorem z9n(hn:1<=n)(k:Nat->Int):kOk n k (λp=>p.toList.Perm (List.range n)/\p.toList.Pairwise (Rk k)) (kas_sort n):=by
 have fin:∀p:Array Nat,Ar n n p->Up k n p->p.toList.Perm (List.range n)/\p.toList.Pairwise (Rk k):=λp A U=>by
  refine⟨by have:=A.pm;rw [Array.perm_iff_toList_perm]at this;simpa using this,?_⟩;rw [Qh];intro i j hi c q;have o:j < n:=by rw [<-A.sz];simpa using c
  have:=U i j q o;unfold at' at this;have d:i < p.size:=by rw [A.sz];lia
  have f:j < p.size:=by rw [A.sz];lia
  simpa [d,f]using this
 refine z16 (jW (λr h=> ?_) (zbq hn (Ar.all.up (by lia) hn)));obtain⟨b1,b2,b,a⟩:=h;by_cases e:r.1 < n
 ·rw [wY e];have hm:max r.1 1=r.1:=by lia
  rw [hm];exact jW (λp h=>fin p h.1 h.2) (zb4 (n - r.1) r.2 r.1 (by lia) b a)
 ·rw [wM e];have l:r.1=n:=by lia
  rw [l]at b a;exact fin r.2 b a
end L2

namespace L2
open PySem PySem.Spec PyProof.Rows PySem.W
variable{ss:List Str}
theorem z7X:∀{us:List Value},zL (ss.map V.str) us->StrsAre us ss:=by
 induction ss with
 | nil=>intro us r;rw [w1q]at r;cases r;exact .nil
 | cons n ns a=>
  intro us r;rw [qC]at r;cases r with
  | cons r1 r2=>
   obtain⟨t,rfl⟩:=r1;exact .cons _ _ (a r2)
variable{X:Cx}
theorem z1P(hc:X.calm=true):kj X (.builtin "sum") (λxs H Q=>∃(a:Addr) (ns:List Int),xs= [.ref a]/\SqL X.K H a (ns.map V.int)/\Q (.int ns.sum) H):=by
 intro pins s σ H xs us Q I r h;obtain⟨a,ns,rfl,hq,q⟩:=h;obtain⟨u,rfl,f⟩:=vals1 r;cases f;obtain⟨a6,r',pl,hz⟩:=I.list hq;have hi:IntsAre a6.toArray.toList ns:=intsAre_of r';obtain⟨xs,b⟩:=hi.allInts.items;have d:s.heap.IsList a (intItems xs):=b ▸ pl.isList;refine sum_intListG (I.ok.hd hc) d λh' tk t' c=> ?_
 have e:ns=xs.toList.map (·.1):=by
  rw [<-nums_intItems,<-b];exact(show numsOf a6.toArray.toList=ns from hi.numsOf).symm
 have i:preSum (numAt xs) xs.size=ns.sum:=by
  rw [preSum_eq,qS (by simp),e]
 rw [i];exact⟨.int ns.sum,H,I.kept c,⟨_,rfl⟩,q⟩
def zbQ(x:V)(z:Str):Prop:=(∃i:Int,x= .int i/\i.natAbs.log2 < 1920/\z=toString i)\/x= .str z
theorem z1Z:kj X (.type "str") (λxs H Q=>∃x z,xs= [x]/\zbQ x z/\Q (.str z) H):=by
 intro pins s σ H xs us Q I r h;obtain⟨x,z,rfl,h,q⟩:=h;rcases h with⟨i,rfl,hi,rfl⟩ | rfl
 ·exact z6i pins s σ H _ us Q I r ⟨i,rfl,hi,q⟩
 ·obtain⟨u,rfl,t,rfl⟩:=vals1 r;exact PySem.P.str_of_str ⟨.str z,H,I,⟨_,rfl⟩,q⟩
def rJoin(K:W.Frag):V->List V->Hp->VK->Prop:=λx vs H Q=>∃z l ys,x= .str z/\vs= [.ref l]/\SqL K H l (ys.map V.str)/\(ys.map (·.length)).sum + ys.length * z.length<=16777216/\Q (.str (Str.join z ys)) H
theorem z9p:MtM X "str.join" (rJoin X.K):=by
 intro pins s σ H x vs v us Q I c b h;obtain⟨z,l,ys,rfl,rfl,hq,hz,q⟩:=h;obtain⟨t,rfl⟩:=c;obtain⟨u,rfl,a⟩:=b.one;cases a;obtain⟨a6,r,pl,hsz⟩:=I.list hq;refine join_list (items:=a6.toArray) pl.isList (z7X r) hz λt' k=> ?_
 have e:Txt.join z ys=Str.join z ys:=StrLaws.glued_eq_join _ _;rw [e];exact⟨.str _,H,I.tok _,⟨_,rfl⟩,q⟩
noncomputable def eqL(xs ys:List V):Bool:=decide (xs.length=ys.length) && (List.range xs.length).all λj=>eqV (xs.getD j .non) (ys.getD j .non)
def zcO(K:W.Frag):R2:=λx y H Q=>∃a b xs ys,x= .ref a/\y= .ref b/\SqL K H a xs/\SqL K H b ys/\xs.all yW=true/\ys.all yW=true/\Q (.bl (eqL xs ys)) H
theorem zai(L:X.A.units + 1 < cLine):OpR X (compareOp .Eq) (zcO X.K):=by
 intro pins s σ H x y v u Q I G E h;have i:X.A.units < cLine:=by lia
 obtain⟨a,b,xs,ys,rfl,rfl,ha,w,l,n,q⟩:=h;cases G;cases E;obtain⟨a6,r,pl,hz⟩:=I.list ha;obtain⟨o,r2,f,_⟩:=I.list w;have l1:=r.length;have l2:=r2.length;by_cases hl:xs.length=ys.length
 ·refine SeqAt.eq_listAt (e:=λj=>eqV (xs.getD j .non) (ys.getD j .non)) pl.isList f.isList (by rw [wz,wz];lia) i (λj h1 h2=> ?_) ?_
  ·have p:j < xs.length:=by rw [wz]at h1;lia
   have t:j < ys.length:=by lia
   have c:xs[j]? =some xs[j]:=wa p;have d:ys[j]? =some ys[j]:=wa t;obtain⟨w1,D,z⟩:=r.get c;obtain⟨w2,J,F⟩:=r2.get d;have B:a6.toArray[j]=w1:=by rw [w06];exact(we.mp D).2
   have C:o.toArray[j]=w2:=by rw [w06];exact(we.mp J).2
   rw [B,C,wb,wb,c,d];exact z68 z F (qN.mp l _ (qL c)) (qN.mp n _ (qL d))
  ·refine⟨.bl (eqL xs ys),H,I,?_,q⟩
   show Value.bool _=Value.bool _
   rw [eqL,wL hl,w1u,wz,<-l1]
 ·refine SeqAt.eq_list_lengthsAt pl.isList f.isList ?_ i ⟨.bl (eqL xs ys),H,I,?_,q⟩
  ·rw [wz,wz,bne_iff_ne,<-l1,<-l2];exact hl
  ·show Value.bool false=Value.bool _
   rw [eqL,wH hl,w19]
theorem z6I{a:List Str}:eqL (ss.map V.str) (a.map V.str)=decide (ss=a):=by
 unfold eqL;rw [w9,w9];by_cases e:ss=a
 ·subst e;rw [wL rfl,wL rfl,w1u,qN];intro j b;rw [Qb]at b;rw [wb,wF,wa b]
  show(ss[j] == ss[j])=true
  exact w05 _
 ·rw [wH e];by_cases hl:ss.length=a.length
  ·rw [wL hl,w1u,Qu];intro h;rw [qN]at h;refine e (List.ext_getElem hl λj h1 h2=> ?_);have:=h j (Qb.mpr h1);rw [wb,wF,wa h1,wb,wF,wa h2]at this;have c:(ss[j] == a[j])=true:=this;exact eq_of_beq c
  ·rw [wH hl,w19]
variable{a:Addr}{xs:List V}{ix:List Nat}{te:TE}{Q:List V->Hp->Prop}{H:Hp}
theorem zaB{K:W.Frag}{σ:St}{tc:TT}(c:Nat->List V->Hp->Prop)(h0:c 0 [] H)(hl:∀i ys H,i<=xs.length->c i ys H->SqT K H a xs/\ys.length < sizeLine)
  (hs:∀(i:Nat) x ys H,xs[i]? =some x->c i ys H->tc (sub σ ix (some x)) H λb H2=>if b=true then te (sub σ ix (some x)) H2 λy d=>c (i + 1) (ys ++ [y]) d else c (i + 1) ys H2) (hd:∀ys H,c xs.length ys H->Q ys H):z0h (Itt K a) σ ix tc te Q H:=by
 refine⟨λi m ys H=>m=xs.length - i/\i<=xs.length/\c i ys H,⟨_,rfl,qQ _,h0⟩,?_⟩;rintro i m ys H ⟨rfl,hi,p⟩;obtain⟨q,hz⟩:=hl i ys H hi p;refine⟨hz,?_⟩;by_cases ag:i < xs.length
 ·refine .inr ⟨⟨xs,xs[i],q,by simp [ag]⟩,λy d=>c (i + 1) (ys ++ [y]) d,λH2=>c (i + 1) ys H2,λy d z=>⟨xs.length - (i + 1),by lia,rfl,ag,z⟩,λH2 z=>⟨xs.length - (i + 1),by lia,rfl,ag,z⟩,λx H' y=> ?_⟩;obtain⟨e,y⟩:=y;subst e;exact hs i x ys _ (y xs q) p
 ·have e:i=xs.length:=by lia
  subst e;exact .inl ⟨⟨xs,q,ww _⟩,hd ys H p⟩
def z3d{K:W.Frag}{σ:St}(b:Nat->List V->Hp->Prop)(h0:b 0 [] H)(hl:∀i ys H,i<=xs.length->b i ys H->SqT K H a xs/\ys.length < sizeLine)
  (hs:∀(i:Nat) x ys H,xs[i]? =some x->b i ys H->te (sub σ ix (some x)) H λy c=>b (i + 1) (ys ++ [y]) c) (hd:∀ys H,b xs.length ys H->Q ys H):z0h (Itt K a) σ ix z7z te Q H:=
 zaB b h0 hl (λi x ys H e p=>z8t (A:=te (sub σ ix (some x)) H λy c=>b (i + 1) (ys ++ [y]) c) (B:=b (i + 1) ys H) (hs i x ys H e p)) hd
theorem z5K{p q:Nat->Bool}:∀{l:List Nat},(∀x∈l,p x=true->q x=true)->(∃x∈l,q x=true/\p x=false)->l.countP p < l.countP q
 | [],_,⟨x,hx,_⟩=>by cases hx
 | y :: l,h,⟨x,hx,h1,h2⟩=>by
  have c:l.countP p<=l.countP q:=List.countP_mono_left λz hz=>h z (wX _ hz)
  rw [List.countP_cons,List.countP_cons];rcases wG.mp hx with rfl | hx
  ·rw [h1,h2];simp;lia
  ·have b:=z5K (λz hz=>h z (wX _ hz)) ⟨x,hx,h1,h2⟩;have a:=h y qy;cases hp:p y <;> cases hq:q y <;> simp_all <;> lia
noncomputable def rank(n:Nat)(lt:Nat->Nat->Bool)(i:Nat):Int:=(((List.range n).countP λm=>lt m i:Nat):Int)
variable{n:Nat}
theorem zdr{lt:Nat->Nat->Bool}(a:∀i,lt i i=false)(tr:∀i j k,lt i j=true->lt j k=true->lt i k=true)(nt:∀i j k,lt i k=true->lt i j=true\/lt j k=true){i j:Nat}(hi:i < n)(b:j < n):
  decide (rank n lt i < rank n lt j)=lt i j:=by
 cases h:lt i j with
 | true=>
  refine wL ?_;have:(List.range n).countP (λm=>lt m i) < (List.range n).countP (λm=>lt m j):=z5K (λx _ e=>tr x i j e h) ⟨i,Qb.mpr hi,h,a i⟩;unfold rank;lia
 | false=>
  refine wH ?_;have:(List.range n).countP (λm=>lt m j)<=(List.range n).countP (λm=>lt m i):=List.countP_mono_left λx _ e=>by
   rcases nt x i j e with h' | h'
   ·exact h'
   ·rw [h]at h';cases h'
  unfold rank;lia
variable{vs:List Value}
theorem zb2{R:Nat->Nat->Prop}(h:vs.length < 2):(List.range vs.length).Pairwise R:=by
 rcases(by lia:vs.length=0\/vs.length=1)with e | e <;> rw [e]
 ·exact List.Pairwise.nil
 ·exact List.pairwise_singleton _ _
theorem z5q{ks:List Value}(h:vs.length < 2)(e:ks.length=vs.length):(ks.toArray.zip vs.toArray).map (·.2)=((List.range vs.length).map λi=>vs.getD i Value.none).toArray:=by
 rcases vs with _ | ⟨x,_ | ⟨y,vs⟩⟩ <;> rcases ks with _ | ⟨k,_ | ⟨l,ks⟩⟩ <;> first | (exfalso;simp only [wN,Qo]at h e;lia) | simp
variable{prog:Program}{w:World}{A:Around}{E:Value->Shared->Prop}{s:Shared}
theorem z56{P:PySem.Fin->Shared->Prop}{κ:SortKind}{k:Nat->Int}(c:s.heap.get? a=some (seqObj "list" vs.toArray n))(J:vs.length < 64)
  (H:2<=vs.length->∀(h':Heap) (Q:SortKind->Shared->Prop),(∀b o,b≠a->s.heap.get? b=some o->h'.get? b=some o)->Q κ {s with heap:=h'}->wpAny (model prog w) A (keyKind' vs.toArray) Q E {s with heap:=h'})
  (I:∀(h':Heap),(∀b o,b≠a->s.heap.get? b=some o->h'.get? b=some o)->∀i j (C:Bool->Shared->Prop),i < vs.length->j < vs.length->C (decide (k i < k j)) {s with heap:=h'}->
   wpAny (model prog w) A (keyLt' κ (vs.getD i Value.none) (vs.getD j Value.none)) C (λ_ _=>False) {s with heap:=h'})
  (h:∀is:List Nat,is.Perm (List.range vs.length)->is.Pairwise (Rk k)->P (.done (.ret .none)) {s with heap:=sortedHeap s.heap a vs (is.map λi=>vs.getD i Value.none).toArray}):
  wpAny (model prog w) A (Builtin.«list.sort» ⟨[.ref a],[]⟩) P E s:=by
 rw [list_sort_plain];have ha:a < s.heap.objs.size:=wI c;refine wy (listItems_at c rfl ?_);refine wy (w16 c rfl ?_);obtain⟨r,u⟩:∃r,(s.heap.update a (Obj.mapSeq λ_=> #[])).get? a=some (seqObj "list" #[] r):=⟨_,get?_update_seq c (λ_=> #[])⟩
 refine wy (seqEpoch_at u rfl ?_);refine wy (wpAny_newTuple ?_);refine wy (wpAny_newList ?_);refine QE ?_;have l:(((s.heap.update a (Obj.mapSeq λ_=> #[])).push (seqObj "tuple" vs.toArray 0)).push (seqObj "list" #[] 0)).get? a=some (seqObj "list" #[] r):=by
  rw [Heap.get?_push_ne _ _ _ (by rw [size_push',Heap.size_update];exact wW (Q0 ha)),Heap.get?_push_ne _ _ _ (by rw [Heap.size_update];exact wW ha)];exact u
 have kp:∀b o,b≠a->s.heap.get? b=some o->(((s.heap.update a (Obj.mapSeq λ_=> #[])).push (seqObj "tuple" vs.toArray 0)).push (seqObj "list" #[] 0)).get? b=some o:=λb o F e=>by
  refine wo _ (wo _ ?_);rw [w1j _ _ _ _ F];exact e
 show wpAny (model prog w) A _ P E {s with heap:=((s.heap.update a (Obj.mapSeq λ_=> #[])).push (seqObj "tuple" vs.toArray 0)).push (seqObj "list" #[] 0)}
 dsimp only;have hsz:vs.toArray.size=vs.length:=by simp
 by_cases h2:vs.toArray.size < 2
 ·rw [wY h2,wY h2];refine wy (wV ?_);rw [StateT.run_pure];refine wy (wV ?_);dsimp only;refine wy (seqEpoch_at l rfl ?_);refine wy (w16 l rfl ?_ (hsz2:=by rw [Array.size_map];show(pairsOf vs).size<=_;rw [pairsOf_size,Qi];lia));simp only [bne_self_eq_false,w03,w1d];have t:vs.length < 2:=by lia
  have d:(arrOf (SortSt.mk' general' (vs.toArray.zip vs.toArray) #[] 7 none)).map (·.2)=((List.range vs.length).map λi=>vs.getD i Value.none).toArray:=by
   have z:arrOf (SortSt.mk' general' (vs.toArray.zip vs.toArray) #[] 7 none)=vs.toArray.zip vs.toArray:=rfl;rw [z];exact z5q t rfl
  refine wV ?_;have:=h (List.range vs.length) (List.Perm.refl _) (zb2 t);rw [<-d]at this;exact this
 ·rw [wM h2,wM h2];refine wy (H (by lia) _ _ kp ?_);refine wy (qY (kat_run (Q:=λf s'=>∃p:Array Nat,(arrOf f).map (·.2)=(p.toList.map λi=>vs.getD i Value.none).toArray/\failedOf f=none/\s'={s with heap:=((s.heap.update a (Obj.mapSeq λ_=> #[])).push (seqObj "tuple" vs.toArray 0)).push (seqObj "list" #[] 0)}/\p.toList.Perm (List.range vs.length)/\p.toList.Pairwise (Rk k)) (vs:=vs) (ks:=vs) (G:=λp s'=>s'={s with heap:=((s.heap.update a (Obj.mapSeq λ_=> #[])).push (seqObj "tuple" vs.toArray 0)).push (seqObj "list" #[] 0)}/\p.toList.Perm (List.range vs.length)/\p.toList.Pairwise (Rk k)) rfl (by lia) J (λp f s' h1 B q K=>⟨p,kat_snds rfl B,q,K⟩)
   (z8A (n:=vs.length) (k:=k) (λi j C hi x y=>I _ kp i j C hi x y) (jW (λp hp=>⟨rfl,hp⟩) (z9n (by lia) k)))) ?_ λ_ _ e=>e)
  rintro⟨⟨⟩,f⟩ s' ⟨p,d,q,rfl,pm,D⟩;dsimp only;refine wy (seqEpoch_at l rfl ?_);refine wy (w16 l rfl ?_ (hsz2:=by rw [d,wz,w9,pm.length_eq,w0L,Qi];lia));rw [q];simp only [bne_self_eq_false,w03,w1d];have:=h p.toList pm D;rw [<-d]at this;exact wV this
noncomputable def z1D(a b:Int×Int):Bool:=decide (a.1 < b.1\/(a.1=b.1/\a.2 < b.2))
theorem zcG{x y:Addr}{a b c d:Int}{t u v z:Tok}{C:Bool->Shared->Prop}(i:IsTup s.heap x #[.int a t,.int b u])(j:IsTup s.heap y #[.int c v,.int d z])(h:C (z1D (a,b) (c,d)) s):
  wpAny (model prog w) A (keyLt' (tuples' true) (.ref x) (.ref y)) C E s:=by
 obtain⟨q,n,_,B,f⟩:=i;obtain⟨D,p,_,r,l⟩:=j;refine kat_lt n f p l ?_;refine kat_cons (SeqAt.EqAt.int_int a t c v prog w _ _ (kat_go (λe=>kat_yes ?_) (λe=>kat_no ?_)))
 ·have o:a=c:=by simpa using e
  refine kat_cons (SeqAt.EqAt.int_int b u d z prog w _ _ (kat_go (λe=>kat_yes (kat_nil ?_)) (λe=>kat_no ?_)))
  ·have F:b=d:=by simpa using e
   have:z1D (a,b) (c,d)=false:=wH (by simp only;lia);rw [this]at h
   simpa using h
  ·have:z1D (a,b) (c,d)=decide (b < d):=by
    unfold z1D;exact w1e.mpr (by simp only;lia)
   rw [this]at h;refine kat_one _ _ ?_;exact PyProof.Rows.lt_int (Q:=PySem.W.BoolBack C) h
 ·have o:¬a=c:=by simpa using e
  have:z1D (a,b) (c,d)=decide (a < c):=by
   unfold z1D;exact w1e.mpr (by simp only;lia)
  rw [this]at h;exact oneLt_int h
theorem zck(a:Int×Int):z1D a a=false:=wH (by lia)
variable{b c:Int×Int}
theorem zdb{a:Int×Int}(h:z1D a b=true)(h':z1D b c=true):z1D a c=true:=by
 have h:=qA h;have h':=qA h';exact wL (by lia)
theorem zcQ{a:Int×Int}(h:z1D a c=true):z1D a b=true\/z1D b c=true:=by
 have h:=qA h;by_cases e:z1D a b=true
 ·exact .inl e
 ·refine .inr (wL ?_);have d:¬(a.1 < b.1\/(a.1=b.1/\a.2 < b.2)):=λz=>e (wL z)
  lia
abbrev PQ:=Addr×Int×Int
noncomputable def pq0:PQ:=(0,0,0)
theorem z8I{H:Hp}{s:Shared}{pins:List (Addr×Obj)}{σ:St}(I:Inv X pins σ H s){h':Heap}(kp:∀b o xs n,s.heap.get? b=some o->o.data= .seq xs n->o.cls= .type "tuple"->h'.get? b=some o):∀(ps:List PQ) (us:List Value),(∀p∈ps,H p.1=some (.tup [.int p.2.1,.int p.2.2]))->zL (ps.map λp=>V.ref p.1) us->
  ∃fs:List Value,KatTups h' us fs/\fs.length=ps.length/\∀v∈fs,∃a t,v=Value.int a t
 | [],us,_,r=>by cases r;exact⟨[],.nil,rfl,λv h=>by cases h⟩
 | p :: ps,us,hp,r=>by
  rw [qC]at r;cases r with
  | cons r1 r2=>
   cases r1;obtain⟨fs,k,l,hi⟩:=z8I I kp ps _ (λq hq=>hp q (wX _ hq)) r2;obtain⟨a6,r',pl,_⟩:=I.tuple (SqT.of (hp p qy));obtain⟨u,e,rfl,⟨t,rfl⟩,_⟩:=vals2 r';obtain⟨o,d,c,n,hd⟩:=pl;refine⟨.int p.2.1 t :: fs,KatTups.cons (kp _ _ _ _ d hd c) c hd rfl k,by rw [wN,l,wN],λv hv=> ?_⟩;rcases wG.mp hv with rfl | hv
   ·exact⟨_,_,rfl⟩
   ·exact hi v hv
theorem z6w(hc:X.calm=true):kj X (.builtin "sorted") (λxs H Q=>∃(l:Addr) (ps:List PQ),xs= [.ref l]/\SqL X.K H l (ps.map λp=>V.ref p.1)/\(∀p∈ps,H p.1=some (.tup [.int p.2.1,.int p.2.2]))/\ps.length < 64/\
  ∀(r:Addr) (is:List Nat),H r=none->is.Perm (List.range ps.length)->is.Pairwise (λi j=>z1D (ps.getD j pq0).2 (ps.getD i pq0).2=false)->Q (.ref r) (upd H r (.lst (is.map λi=>V.ref (ps.getD i pq0).1)))):=by
 intro pins s σ H xs us Q I r h;obtain⟨l,ps,rfl,hq,hp,gQ,q⟩:=h;obtain⟨u,rfl,O⟩:=vals1 r;cases O;obtain⟨vs,y,pl,hz⟩:=I.list hq;have hlen:vs.length=ps.length:=by
  have:=y.length;rw [w9]at this
  lia
 refine Calls.call_function_entry kind_sorted plain_sorted entry_sorted (args_sorted1 _) ?_;unfold Builtin.«sorted»;refine wy (m:=checkCount "sorted" 1 1 _) (wV ?_);refine wy (collect_list pl.isList ?_ (by rw [Qi];lia));refine wy (wpAny_newList ?_ (by rw [Qi];lia));obtain⟨h1,F⟩:∃h1,(s.heap.push (seqObj "list" #[] 0)).update s.heap.objs.size (Obj.mapSeq (· ++ vs.toArray))=h1:=⟨_,rfl⟩
 have kp1:∀b o,s.heap.get? b=some o->h1.get? b=some o:=λb o e=>by
  have d:=wI e;rw [<-F,w1j _ _ _ _ (wW d)];exact wo _ e
 rw [F];have L:Inv X pins σ H {s with heap:=h1}:=I.kept (t':=s.toks) kp1;have B:(h1.push (seqObj "list" vs.toArray 0)).get? h1.objs.size=some (seqObj "list" vs.toArray 0):=q5 _ rfl;have kp2:∀b o,s.heap.get? b=some o->b≠h1.objs.size/\(h1.push (seqObj "list" vs.toArray 0)).get? b=some o:=λb o e=>⟨wW (wI (kp1 b o e)),wo _ (kp1 b o e)⟩
 obtain⟨lt,x⟩:∃lt:Nat->Nat->Bool,lt=λi j=>z1D (ps.getD i pq0).2 (ps.getD j pq0).2:=⟨_,rfl⟩
 have D:∀{i j:Nat},i < ps.length->j < ps.length->decide (rank ps.length lt i < rank ps.length lt j)=lt i j:=λhi c=>
  zdr (λi=>by rw [x];exact zck _) (λi j k a b=>by rw [x]at *;exact zdb a b) (λi j k a=>by rw [x]at *;exact zcQ a) hi c
 refine wy (QE (wpAny_call_entry slot_list_sort ⟨_,B,rfl⟩ entry_list_sort (z56 (κ:=tuples' true) (k:=rank ps.length lt) B (by lia) (λh2 h' Q' kp hQ=> ?kk) (λh' kp i j C hi c G=> ?cm) λis pm R=>⟨_,rfl,?fin⟩) (args_list_sort _)))
 case kk=>
  obtain⟨fs,k,lf,hi⟩:=z8I I (h':=h') (λb o xs n e _ _=>kp b o (kp2 b o e).1 (kp2 b o e).2) ps vs hp y;refine kat_kind (T:= .type "int") k (by lia) (λv hv=> ?_) (by decide) hQ;obtain⟨a,t,rfl⟩:=hi v hv;exact .now
 case cm=>
  have get:∀m,m < ps.length->∃(t u:Tok),vs.getD m Value.none= .ref (ps.getD m pq0).1/\IsTup h' (ps.getD m pq0).1 #[.int (ps.getD m pq0).2.1 t,.int (ps.getD m pq0).2.2 u]:=λm hm=>by
   have g:(ps.map λp=>V.ref p.1)[m]? =some (V.ref ps[m].1):=by rw [wF,wa hm];rfl
   have J:ps.getD m pq0=ps[m]:=by rw [wb,wa hm];rfl
   obtain⟨w,z,A⟩:=y.get g;cases A;obtain⟨a6,r',pl,_⟩:=I.tuple (SqT.of (hp _ (wu hm)));obtain⟨u,w',rfl,⟨t,rfl⟩,⟨t',rfl⟩⟩:=vals2 r';obtain⟨o,E,S,n,hd⟩:=pl;refine⟨t,t',?_,?_⟩
   ·rw [wb,z,J];rfl
   ·rw [J];exact⟨o,kp _ _ (kp2 _ _ E).1 (kp2 _ _ E).2,S,n,hd⟩
  obtain⟨t,u,Z,t1⟩:=get i (by lia);obtain⟨t',u',U,P⟩:=get j (by lia);rw [Z,U];rw [D (by lia) (by lia),x]at G;exact zcG t1 P G
 case fin=>
  refine wV ⟨_,rfl,?_⟩;obtain⟨e,he⟩:=sortedHeap_at (out:=(is.map λi=>vs.getD i Value.none).toArray) B;rw [hlen]at pm;have vV:is.Pairwise (λi j=>z1D (ps.getD j pq0).2 (ps.getD i pq0).2=false):=by
   refine(Qh.mpr λa b ha d M=> ?_);have h0:=Qh.mp R a b ha d M;have ma:is[a] < ps.length:=Qb.mp (pm.mem_iff.mp (wu ha));have mb:is[b] < ps.length:=Qb.mp (pm.mem_iff.mp (wu d));have:=D mb ma;have N:lt is[b] is[a]=z1D (ps.getD is[b] pq0).2 (ps.getD is[a] pq0).2:=by rw [x]
   rw [<-N,<-this];refine wH ?_;unfold Rk at h0
   lia
  refine⟨.ref h1.objs.size,upd H h1.objs.size (.lst (is.map λi=>V.ref (ps.getD i pq0).1)),?_,rfl,q _ is L.fresh pm vV⟩;refine L.laid (a:=h1.objs.size) (t':=s.toks) (λb o e=> ?_) (ww _) ⟨?_,is.map λi=>vs.getD i Value.none,e,?_,?_⟩
  ·have d:=wI e;rw [sortedHeap_old (wW d) (by rw [Qc];exact Q0 d)];exact wo _ e
  ·rw [w9,pm.length_eq,w0L];exact jb (by lia)
  ·have go:∀f:List Nat,(∀j∈f,j < ps.length)->zL (f.map λi=>V.ref (ps.getD i pq0).1) (f.map λi=>vs.getD i Value.none):=λf=>by
    induction f with
    | nil=>intro _;exact .nil
    | cons j f Y=>
     intro c;rw [qC,qC];refine .cons ?_ (Y λm hm=>c m (wX _ hm));have hm:=c j qy;have g:(ps.map λp=>V.ref p.1)[j]? =some (V.ref ps[j].1):=by rw [wF,wa hm];rfl
     obtain⟨w,z,A⟩:=y.get g;rw [wb,wa hm,wb,z];exact A
   exact go is λj c=>Qb.mp (pm.mem_iff.mp c)
  ·exact he
@[elab_as_elim] theorem zg {motive:Hp->Prop}  {p:Addr} {o:HO} (K:Hp) (e:K=upd H p o) (hp:H p=none) (h:∀H',zw H H'->H' p=some o->motive H'):motive K:=by
 subst e;exact h _ (zB hp o) zj
end L2

namespace Qs
open PySem L2 Cn Rw
inductive Qn where
 | table (n:Str) | pick (c:Cond) (q:Qn) | cols (ns:List Str) (q:Qn) | pair (q r:Qn) | join (a b:Str) (q r:Qn)
 | both (q r:Qn) | first (n:Int) (q:Qn) | group (a b n s:Str) (q:Qn) | sort (a:Str) (q:Qn)
def QAt(H:Hp):Qn->V->Prop
 | .table n,v=>∃p,v= .ref p/\H p=some (.tup [.str "table",.str n])
 | .pick c q,v=>∃p x y,v= .ref p/\H p=some (.tup [.str "pick",x,y])/\zC H c x/\QAt H q y
 | .cols ns q,v=>∃p x y,v= .ref p/\H p=some (.tup [.str "cols",.ref x,y])/\H x=some (.tup (ns.map V.str))/\QAt H q y
 | .pair q r,v=>∃p x y,v= .ref p/\H p=some (.tup [.str "pair",x,y])/\QAt H q x/\QAt H r y
 | .join a b q r,v=>∃p x y,v= .ref p/\H p=some (.tup [.str "join",.str a,.str b,x,y])/\QAt H q x/\QAt H r y
 | .both q r,v=>∃p x y,v= .ref p/\H p=some (.tup [.str "both",x,y])/\QAt H q x/\QAt H r y
 | .first n q,v=>∃p y,v= .ref p/\H p=some (.tup [.str "first",.int n,y])/\QAt H q y
 | .group a b n s q,v=>∃p y,v= .ref p/\H p=some (.tup [.str "group",.str a,.str b,.str n,.str s,y])/\QAt H q y
 | .sort a q,v=>∃p y,v= .ref p/\H p=some (.tup [.str "sort",.str a,y])/\QAt H q y
theorem QAt.mono{H H':Hp}(t:∀b xs,H b=some (.tup xs)->H' b=some (.tup xs)):∀{q:Qn} {v:V},QAt H q v->QAt H' q v
 | .table _,_,h=>by
  obtain⟨p,rfl,h⟩:=h;exact⟨p,rfl,t _ _ h⟩
 | .pick _ _,_,h=>by
  obtain⟨p,x,y,rfl,h,h1,h2⟩:=h;exact⟨p,x,y,rfl,t _ _ h,h1.mono t,h2.mono t⟩
 | .cols _ _,_,h=>by
  obtain⟨p,x,y,rfl,h,h1,h2⟩:=h;exact⟨p,x,y,rfl,t _ _ h,t _ _ h1,h2.mono t⟩
 | .pair _ _,_,h=>by
  obtain⟨p,x,y,rfl,h,h1,h2⟩:=h;exact⟨p,x,y,rfl,t _ _ h,h1.mono t,h2.mono t⟩
 | .join _ _ _ _,_,h=>by
  obtain⟨p,x,y,rfl,h,h1,h2⟩:=h;exact⟨p,x,y,rfl,t _ _ h,h1.mono t,h2.mono t⟩
 | .both _ _,_,h=>by
  obtain⟨p,x,y,rfl,h,h1,h2⟩:=h;exact⟨p,x,y,rfl,t _ _ h,h1.mono t,h2.mono t⟩
 | .first _ _,_,h=>by
  obtain⟨p,y,rfl,h,h2⟩:=h;exact⟨p,y,rfl,t _ _ h,h2.mono t⟩
 | .group _ _ _ _ _,_,h=>by
  obtain⟨p,y,rfl,h,h2⟩:=h;exact⟨p,y,rfl,t _ _ h,h2.mono t⟩
 | .sort _ _,_,h=>by
  obtain⟨p,y,rfl,h,h2⟩:=h;exact⟨p,y,rfl,t _ _ h,h2.mono t⟩
theorem QAt.same{H H':Hp}{q:Qn}{v:V}(e:zw H H')(h:QAt H q v):QAt H' q v:=h.mono λb xs z=>e b _ z
noncomputable def Side.txt:Side->Str
 | .nm s=>s
 | .nu i=>toString i
noncomputable def ends(a b:Side):Str:=Side.txt a ++ " " ++ Side.txt b
noncomputable def yq:Cond->Str
 | .less a b=>"(" ++ "less" ++ " " ++ ends a b ++ ")"
 | .same a b=>"(" ++ "same" ++ " " ++ ends a b ++ ")"
 | .no c=>"(" ++ "not" ++ " " ++ yq c ++ ")"
 | .an c d=>"(" ++ "and" ++ " " ++ (yq c ++ " " ++ yq d) ++ ")"
 | .or c d=>"(" ++ "or" ++ " " ++ (yq c ++ " " ++ yq d) ++ ")"
noncomputable def zx:Qn->Str
 | .table n=>n
 | .pick c q=>"(pick " ++ yq c ++ " " ++ zx q ++ ")"
 | .cols ns q=>"(cols " ++ Str.join " " ns ++ " " ++ zx q ++ ")"
 | .pair q r=>"(pair " ++ zx q ++ " " ++ zx r ++ ")"
 | .join a b q r=>"(join " ++ a ++ " " ++ b ++ " " ++ zx q ++ " " ++ zx r ++ ")"
 | .both q r=>"(both " ++ zx q ++ " " ++ zx r ++ ")"
 | .first n q=>"(first " ++ (toString n:Str) ++ " " ++ zx q ++ ")"
 | .group a b n s q=>"(group " ++ (a ++ " " ++ b ++ " " ++ n ++ " " ++ s) ++ " " ++ zx q ++ ")"
 | .sort a q=>"(sort " ++ a ++ " " ++ zx q ++ ")"
noncomputable def leK(k:Nat->Int)(i j:Nat):Bool:=decide (k i < k j\/(k i=k j/\i<=j))
noncomputable def z2u(k:Nat->Int)(n:Nat):List Nat:=(List.range n).mergeSort (leK k)
theorem z0M(k:Nat->Int)(n:Nat):(z2u k n).Perm (List.range n):=List.mergeSort_perm _ _
theorem z7Z(k:Nat->Int)(n:Nat):(z2u k n).Pairwise λi j=>leK k i j=true:=
 List.pairwise_mergeSort (λa b c h1 h2=>by
  have h1:=qA h1;have h2:=qA h2;exact wL (by lia)) (λa b=>by
  unfold leK;rw [Bool.or_eq_true,w0K,w0K]
  lia) _
theorem z3u{k:Nat->Int}{n:Nat}{is:List Nat}(hp:is.Perm (List.range n))(c:is.Pairwise λi j=>leK k i j=true):is=z2u k n:=by
 refine List.Perm.eq_of_pairwise (le:=λi j=>leK k i j=true) (λa b _ _ h1 h2=> ?_) c (z7Z k n) (hp.trans (z0M k n).symm);have h1:=qA h1;have h2:=qA h2
 lia
theorem z7T(k:Nat->Int)(n:Nat):(z2u k n).length=n:=by rw [(z0M k n).length_eq,w0L]
noncomputable def z2X(rows:List (List Int))(s:Nat)(i:Nat):Int:=(rows.getD i []).getD s 0
noncomputable def yX(s:Nat)(rows:List (List Int)):List (List Int):=(z2u (z2X rows s) rows.length).map λi=>rows.getD i []
noncomputable def jL(s:Nat)(rows:List (List Int)):List Int:=rows.foldl (λacc r=>if r.getD s 0∈acc then acc else acc ++ [r.getD s 0]) []
noncomputable def yD(s p:Nat)(rows:List (List Int))(k:Int):List Int:= [k,(((rows.filter λr=>decide (r.getD s 0=k)).length:Nat):Int),((rows.filter λr=>decide (r.getD s 0=k)).map λr=>r.getD p 0).sum]
noncomputable def z2q(s p:Nat)(rows:List (List Int)):List (List Int):=(jL s rows).map (yD s p rows)
noncomputable def pairs(xs ys:List (List Int)):List (List Int):=xs.flatMap λx=>ys.map λy=>x ++ y
section
variable(th:Str->List Str)(tr:Str->List (List Int))
noncomputable def zd:Qn->List Str
 | .table n=>th n
 | .pick _ q=>zd q
 | .cols ns _=>ns
 | .pair q r=>zd q ++ zd r
 | .join _ _ q r=>zd q ++ zd r
 | .both q _=>zd q
 | .first _ q=>zd q
 | .group a _ n s _=> [a,n,s]
 | .sort _ q=>zd q
noncomputable def rowsOf:Qn->List (List Int)
 | .table n=>tr n
 | .pick c q=>(rowsOf q).filter λr=>ev (zd th q) r c
 | .cols ns q=>(rowsOf q).map λr=>ns.map λn=>r.getD ((zd th q).idxOf n) 0
 | .pair q r=>pairs (rowsOf q) (rowsOf r)
 | .join a b q r=>(pairs (rowsOf q) (rowsOf r)).filter λz=>decide (z.getD ((zd th q ++ zd th r).idxOf a) 0=z.getD ((zd th q ++ zd th r).idxOf b) 0)
 | .both q r=>rowsOf q ++ rowsOf r
 | .first n q=>(rowsOf q).take n.toNat
 | .group a b _ _ q=>z2q ((zd th q).idxOf a) ((zd th q).idxOf b) (rowsOf q)
 | .sort a q=>yX ((zd th q).idxOf a) (rowsOf q)
end
noncomputable def jc:List Str:= ["a","b","f","g","h","i","j","k","l","o","p","q"]
noncomputable def z2l:List Str:= ["abcabcabcd","abcabcabce"]
noncomputable def signs:List Str:= ["a","b","c","d","e","f","g","h","i","j","k","l","m","n","o","p","q","r","s","t","u","v","w","x","y","z"]
noncomputable def z0a(k used:Nat):List Str:=jc ++ (if 2<=used then z2l else []) ++ (if 3<=used then(["e"]:List Str)else []) ++ ((signs.take k).map λs=>(("n":Str) ++ s:Str)) ++ ((signs.take k).map λs=>(("s":Str) ++ s:Str))
noncomputable def tabs:List Str:= ["t","tuvtuvtuvw","tuvtuvtuvx","tuvz"]
noncomputable def nums:List Int:= [0,1,-1,2,10 ^ 30,3]
noncomputable def z0j:List Int:= [9,1,5,3,12,7,0,10 ^ 9,4,2,8]
def Side.small(hs:List Str):Side->Prop
 | .nm s=>s∈hs
 | .nu i=>i∈nums
def jA(hs:List Str):Cond->Prop
 | .less a b=>Side.small hs a/\Side.small hs b
 | .same a b=>Side.small hs a/\Side.small hs b
 | .no c=>jA hs c
 | .an c d=>jA hs c/\jA hs d
 | .or c d=>jA hs c/\jA hs d
theorem jA.ok{hs:List Str}:∀{c:Cond},jA hs c->c.ok hs
 | .less a b,h=>by
  refine⟨?_,?_⟩
  ·cases a with
   | nm s=>exact h.1
   | nu i=>trivial
  ·cases b with
   | nm s=>exact h.2
   | nu i=>trivial
 | .same a b,h=>by
  refine⟨?_,?_⟩
  ·cases a with
   | nm s=>exact h.1
   | nu i=>trivial
  ·cases b with
   | nm s=>exact h.2
   | nu i=>trivial
 | .no c,h=>jA.ok (c:=c) h
 | .an c d,h=>⟨jA.ok h.1,jA.ok h.2⟩
 | .or c d,h=>⟨jA.ok h.1,jA.ok h.2⟩
def okQ(th:Str->List Str):Qn->Prop
 | .table n=>n∈tabs
 | .pick c q=>jA (zd th q) c/\c.size<=6/\okQ th q
 | .cols ns q=>ns≠ []/\ns.Nodup/\(∀n∈ns,n∈zd th q)/\okQ th q
 | .pair q r=>(∀n∈zd th q,n∉zd th r)/\okQ th q/\okQ th r
 | .join a b q r=>a∈zd th q/\b∈zd th r/\(∀n∈zd th q,n∉zd th r)/\okQ th q/\okQ th r
 | .both q r=>zd th q=zd th r/\okQ th q/\okQ th r
 | .first n q=>n∈z0j/\okQ th q
 | .group a b n s q=>a∈zd th q/\b∈zd th q/\(∃g∈signs,n=("n":Str) ++ g/\s=("s":Str) ++ g)/\a≠n/\a≠s/\okQ th q
 | .sort a q=>a∈zd th q/\okQ th q
noncomputable def depth:Qn->Nat
 | .table _=>1
 | .pick _ q=>depth q + 1
 | .cols _ q=>depth q + 1
 | .pair q r=>max (depth q) (depth r) + 1
 | .join _ _ q r=>max (depth q) (depth r) + 1
 | .both q r=>max (depth q) (depth r) + 1
 | .first _ q=>depth q + 1
 | .group _ _ _ _ q=>depth q + 1
 | .sort _ q=>depth q + 1
structure TabOk(th:Str->List Str)(tr:Str->List (List Int)):Prop where
 t:∃m,2<=m/\m<=12/\th "t"=jc.take m
 w:th "tuvtuvtuvw"=z2l
 x:th "tuvtuvtuvx"=(["e"]:List Str)
 z:th "tuvz"=th "t"
 rl:∀n∈tabs,∀r∈tr n,r.length=(th n).length
 ct:(tr "t").length<=60
 cw:(tr "tuvtuvtuvw").length<=10
 cx:(tr "tuvtuvtuvx").length<=10
 cz:(tr "tuvz").length=3
theorem z8y:jc.Nodup:=by decide +kernel
theorem zf2:∀g∈signs,(("n":Str) ++ g:Str)≠(("s":Str) ++ g:Str):=by decide +kernel
section
variable{th:Str->List Str}{tr:Str->List (List Int)}
theorem TabOk.hd(T:TabOk th tr):∀n∈tabs,th n≠ []/\(th n).Nodup:=by
 obtain⟨m,b,a,e⟩:=T.t;have ht:th "t"≠ []/\(th "t").Nodup:=by
  rw [e];refine⟨λz=> ?_,z8y.sublist (List.take_sublist _ _)⟩;have:=Q6 List.length z;rw [wK]at this;simp [jc]at this
  lia
 intro n hn;simp only [tabs,wG,qi,QG]at hn;rcases hn with rfl | rfl | rfl | rfl
 ·exact ht
 ·rw [T.w];exact⟨by decide +kernel,by decide +kernel⟩
 ·rw [T.x];exact⟨by decide +kernel,by decide +kernel⟩
 ·rw [T.z];exact ht
theorem jB(T:TabOk th tr):∀{q:Qn},okQ th q->zd th q≠ []/\(zd th q).Nodup
 | .table n,h=>T.hd n h
 | .pick _ q,h=>jB T (q:=q) h.2.2
 | .cols ns q,h=>⟨h.1,h.2.1⟩
 | .pair q r,h=>by
  have h1:=jB T (q:=q) h.2.1;have h2:=jB T (q:=r) h.2.2;refine⟨by show _ ++ _≠_;simp [h1.1],QP.mpr ⟨h1.2,h2.2,λa ha b c e=>h.1 a ha (e ▸ c)⟩⟩
 | .join a b q r,h=>by
  have h1:=jB T (q:=q) h.2.2.2.1;have h2:=jB T (q:=r) h.2.2.2.2;refine⟨by show _ ++ _≠_;simp [h1.1],QP.mpr ⟨h1.2,h2.2,λa ha b c e=>h.2.2.1 a ha (e ▸ c)⟩⟩
 | .both q r,h=>jB T (q:=q) h.2.1
 | .first _ q,h=>jB T (q:=q) h.2
 | .group a b n s q,h=>by
  obtain⟨_,_,⟨g,d,rfl,rfl⟩,h1,h2,_⟩:=h;refine⟨by show [_,_,_]≠ [];simp,?_⟩
  show List.Nodup [a,_,_]
  simp [h1,h2,zf2 g d]
 | .sort _ q,h=>jB T (q:=q) h.2
theorem z27{xs ys:List (List Int)}{z:List Int}(h:z∈pairs xs ys):∃x∈xs,∃y∈ys,z=x ++ y:=by
 obtain⟨x,a,h⟩:=List.mem_flatMap.mp h;obtain⟨y,b,e⟩:=qe.mp h;exact⟨x,a,y,b,e.symm⟩
theorem z5B{s:Nat}{rows:List (List Int)}{r:List Int}(h:r∈yX s rows):r∈rows:=by
 obtain⟨i,hi,e⟩:=qe.mp h;have hl:=Qb.mp ((z0M _ _).mem_iff.mp hi);rw [<-e,wb,wa hl];exact wu hl
theorem jG(T:TabOk th tr):∀{q:Qn},okQ th q->∀r∈rowsOf th tr q,r.length=(zd th q).length
 | .table n,h=>λr m=>T.rl n h r m
 | .pick c q,h=>λr m=>jG T (q:=q) h.2.2 r (Qf.mp m).1
 | .cols ns q,h=>λr m=>by
  obtain⟨x,_,rfl⟩:=qe.mp m;rw [w9];rfl
 | .pair q s,h=>λr m=>by
  obtain⟨x,d,y,e,rfl⟩:=z27 m
  show _=(zd th q ++ zd th s).length
  rw [wg,wg,jG T (q:=q) h.2.1 x d,jG T (q:=s) h.2.2 y e]
 | .join a b q s,h=>λr m=>by
  obtain⟨x,d,y,e,rfl⟩:=z27 (Qf.mp m).1
  show _=(zd th q ++ zd th s).length
  rw [wg,wg,jG T (q:=q) h.2.2.2.1 x d,jG T (q:=s) h.2.2.2.2 y e]
 | .both q s,h=>λr m=>by
  rcases wB.mp m with m | m
  ·exact jG T (q:=q) h.2.1 r m
  ·have:=jG T (q:=s) h.2.2 r m;rw [<-h.1]at this;exact this
 | .first n q,h=>λr m=>jG T (q:=q) h.2 r (Qy m)
 | .group a b n s q,h=>λr m=>by
  obtain⟨x,_,rfl⟩:=qe.mp m
  rfl
 | .sort a q,h=>λr m=>jG T (q:=q) h.2 r (z5B m)
end
end Qs
namespace Qs
open PySem L2 Cn Rw
theorem z7I:∀s∈jc,s.length<=10:=by decide +kernel
theorem zfg:∀s∈z2l,s.length<=10:=by decide +kernel
theorem zf1:∀s∈(["e"]:List Str),s.length<=10:=by decide +kernel
theorem z2G:∀g∈signs,(("n":Str) ++ g:Str).length<=10/\(("s":Str) ++ g:Str).length<=10/\g.length=1:=by decide +kernel
variable{th:Str->List Str}{tr:Str->List (List Int)}
theorem z5H(T:TabOk th tr):∀n∈tabs,∀s∈th n,s.length<=10:=by
 obtain⟨m,b,a,e⟩:=T.t;have ht:∀s∈th "t",s.length<=10:=by
  rw [e];exact λs hs=>z7I s (Qy hs)
 intro n hn;simp only [tabs,wG,qi,QG]at hn;rcases hn with rfl | rfl | rfl | rfl
 ·exact ht
 ·rw [T.w];exact zfg
 ·rw [T.x];exact zf1
 ·rw [T.z];exact ht
theorem j7(T:TabOk th tr):∀{q:Qn},okQ th q->∀s∈zd th q,s.length<=10
 | .table n,h=>z5H T n h
 | .pick _ q,h=>j7 T (q:=q) h.2.2
 | .cols ns q,h=>λs hs=>j7 T (q:=q) h.2.2.2 s (h.2.2.1 s hs)
 | .pair q r,h=>λs hs=>by
  rcases wB.mp hs with hs | hs
  ·exact j7 T (q:=q) h.2.1 s hs
  ·exact j7 T (q:=r) h.2.2 s hs
 | .join a b q r,h=>λs hs=>by
  rcases wB.mp hs with hs | hs
  ·exact j7 T (q:=q) h.2.2.2.1 s hs
  ·exact j7 T (q:=r) h.2.2.2.2 s hs
 | .both q r,h=>j7 T (q:=q) h.2.1
 | .first _ q,h=>j7 T (q:=q) h.2
 | .group a b n s q,h=>λx e=>by
  obtain⟨ha,_,⟨g,c,rfl,rfl⟩,_,_,hq⟩:=h;have d:x∈ [a,("n":Str) ++ g,("s":Str) ++ g]:=e;simp only [wG,qi,QG]at d;rcases d with rfl | rfl | rfl
  ·exact j7 T (q:=q) hq _ ha
  ·exact(z2G g c).1
  ·exact(z2G g c).2.1
 | .sort _ q,h=>j7 T (q:=q) h.2
def yL(th:Str->List Str)(tr:Str->List (List Int))(H:Hp)(v:V)(q:Qn):Prop:=∃(p:Addr) (qv:V) (hp rp:Addr) (rs:List (Addr×List Int)),v= .ref p/\H p=some (.tup [qv,.str (zx q),.ref hp,.ref rp])/\QAt H q qv/\
 H hp=some (.lst ((zd th q).map V.str))/\RowsAt H rp rs/\rs.map (·.2)=rowsOf th tr q
theorem yL.same{H H':Hp}{v:V}{q:Qn}(h:yL th tr H v q)(e:zw H H'):yL th tr H' v q:=by
 obtain⟨p,qv,hp,rp,rs,rfl,h1,h2,c,b,a⟩:=h;exact⟨p,qv,hp,rp,rs,rfl,e _ _ h1,h2.same e,e _ _ c,b.same e,a⟩
end Qs

namespace L2
open PySem PySem.Spec PyProof.Rows
variable{P:Program}{w:World}{x:Str}{f:Addr}{fd:FuncData}{sp:Sp}
section
variable{K:W.Frag}{mg:Str->Option Value}{base:Heap}
theorem Fun.okC{qual:Str}{st:Stmt}{N ps:List Str}{k:Nat}(F:Fun K x qual st f fd)(S:FnScope N ps (zi st))(len:∀vs H Q E,sp vs H Q E->vs.length=ps.length)
  (c:∀(A:Around) (outer:List Env) (s:Shared) (H:Hp) (vs:List V) (Q:VK) (E:XK),Room k (A.deeper (envOfC qual (zi st) s.heap.objs.size f fd.code))->sp vs H Q E->
   ∃t,PSs (z36 CX0 P w K mg base N qual (zi st) f fd.code A outer s H E).nox (jO st) t/\t {nx:=λ_ H'=>Q .non H',rt:=Q} (start N vs) H):FnOk P w K mg base CX0 (k + 1) f fd ps sp:=by
 obtain⟨oc,od,kV,aS,pm,an,ac,ct,cC,rfl,d,b⟩:=F.ex;refine zdC d b S len λA outer s H vs Q E hr a=> ?_
 obtain⟨t,h,q⟩:=c A outer s H vs Q E hr a;exact⟨t,h.nox,q⟩
end
variable{X:Cx}{pins:List (Addr×Obj)}{H:Hp}{s:Shared}
section
variable{σ:St}
theorem Inv.adopt{D:Addr}{o:HO}(I:Inv X pins σ H s)(hn:H D=none)(f:D≠X.env.locals)(h1:X.s₀.heap.objs.size<=D)(h2:∀x c,X.env.cells.lookup x=some c->c≠D)(d:∀p∈X.pn ++ pins,p.1≠D)
  (new:jt X.prog X.w (upd H D o) s.heap D o):Inv X pins σ (upd H D o) s:=by
 have r:=I.step (h':=s.heap) (H':=upd H D o) (g':=s.gens) (t':=s.toks) (d':=s.drawn) (ch:= [D]) (λb a=> ?_) (λb o _ _ _ e _=>e) (λb o _ _ _ e _=>⟨o.slots,e⟩)
  (λb o hc e n=>by rw [zl (by simpa using hc)];exact n) (λb o _ e=>⟨o,e⟩) (λb xs e=>by rw [zl (zq e hn)];exact e) (λb o u e=>by rw [zl (zq e hn)];exact e)
  (λb ps e=>⟨#[],by rw [zl (zq e hn),e];simp⟩) (λm hm=>hm) (λb u e=> ?_) I.bare
 ·exact r
 ·have e:b=D:=by simpa using a
  subst e;exact⟨.inr h1,f,h2,d⟩
 ·by_cases a:b=D
  ·subst a;rw [zj]at e;cases e;exact new
  ·rw [zl a]at e;exact(I.hok b u e).stay (λc v _ q=>q) (λc q=>by rw [zl (zq q hn)];exact q) λc xs q=>by rw [zl (zq q hn)];exact q
end
def z4s(H:Hp)(T:Addr)(lp:Pos)(q:Str)(c:Addr):Prop:=
 H T=some (.tbl #[rawInt lp.line,rawInt lp.col,.ref c])/\∃oc vs t,H c=some (.frz oc (.own 0))/\oc.data= .fields vs/\vs[1]? =some (.str q t)
def jJ(H:Hp)(T:Addr)(lp:Pos)(q:Str):Prop:=H T=some (.tbl #[])\/∃c,z4s H T lp q c
variable{T:Addr}{lp:Pos}{q:Str}
theorem jJ.ne{a:Addr}{u:HO}(h:jJ H T lp q)(e:H a=some u)(b:∀ps,u≠ .tbl ps):a≠T:=by
 rintro rfl;rcases h with h | ⟨c,h,_⟩
 ·rw [h]at e;cases e;exact b _ rfl
 ·rw [h]at e;cases e;exact b _ rfl
theorem jJ.same{H':Hp}(h:jJ H T lp q)(k:zw H H'):jJ H' T lp q:=by
 rcases h with h | ⟨c,h,oc,vs,t,h2,a⟩
 ·exact .inl (k _ _ h)
 ·exact .inr ⟨c,k _ _ h,oc,vs,t,k _ _ h2,a⟩
variable{h:Heap}{c:Addr}
theorem z4s.rec(x:z4s H T lp q c)(ok:HOk P w H h):h.CodeRec (.ref c) q:=by
 obtain⟨_,oc,vs,t,h2,b,a⟩:=x;obtain⟨e,_⟩:=ok c _ h2;exact⟨c,oc,vs,t,rfl,e,b,a⟩
variable{A:Around}{E Q:Value->Shared->Prop}{params:Arguments}{body:Expr}{scope:Scope}
section
variable{σ:St}
noncomputable abbrev z3f(X:Cx)(params:Arguments)(body:Expr)(scope:Scope)(pm:Value)(c:Addr)(ct:Value):Obj:=
 PySem.W.kla_obj "<lambda>" (X.env.qual ++ "<lambda>") params body scope (yK X.env scope.names []) pm c ct
theorem z70(I:Inv X pins σ H s)(hc:X.env.code= .ref c)(C:PySem.W.CodeHd X.base c T)(B:X.base.BuiltinsAt X.mg T)
  (hL:jJ H T lp (X.env.qual ++ "<lambda>")) (dM:defaultsOf params X.env=([],[])) (clo:∀y∈scope.names,y.2= .free->X.env.kindOf y.1=some .cell\/X.env.kindOf y.1=some .free)
  (h:∀f c' ct pm H' s',Kp T H H'->z4s H' T lp (X.env.qual ++ "<lambda>") c'->Inv X (pins ++ [(f,z3f X params body scope pm c' ct)]) σ H' s'->Q (.ref f) s'):
  wpAny (model X.prog X.w) A (eval (.Lambda params body scope lp) X.env) Q E s:=by
 have M:∀y∈scope.names,y.2= .free->∃c,X.env.cells.lookup y.1=some c:=λy U G=>I.ok.has y.1 (clo y U G)
 have K:s.heap.Ns mainGlobals X.mg:=by
  obtain⟨o,es,ep,e,r⟩:=I.mod.glob;exact⟨o,es,ep,I.bk _ _ e,r⟩
 have O:s.heap.BuiltinsAt X.mg T:=by
  obtain⟨bm,o,b1,b2,Z,S,b5,b6⟩:=B;exact⟨bm,o,b1,b2,Z,S,I.bk _ _ b5,b6⟩
 refine PySem.W.kla_eval dM ?_;rcases hL with a | ⟨c',a,oc,vs,t,h2,h3,h4⟩
 ·have D:s.heap.get? T=some (PySem.W.tabObj #[]):=I.hok T _ a;have Y:mainGlobals≠T:=λz=>by
   obtain⟨o,es,ep,e,r⟩:=I.mod.glob;have:=(I.bs _ _ e).2;rw [z,a]at this;cases this
  refine PySem.W.kla_makeFunction (ps:= #[]) (kY M) I.ok.glob K hc (C.keeps I.bk) D trivial rfl Y O λc' ct h' tk hx j P fZ F=> ?_
  obtain⟨c2,oc,vs,t,e2,N,hd,hv⟩:=fZ;cases e2;have nc:H c'=none:=I.hok.fresh j;have J:c'≠T:=λz=>by rw [z,a]at nc;cases nc
  have L:h'.get? T=some (PySem.W.tabObj #[rawInt lp.line,rawInt lp.col,.ref c']):=by simpa using F
  have ne:∀b u,H b=some u->b≠c':=λb u e=>zq e nc
  have up:∀b o,b≠T->s.heap.get? b=some o->(h'.push (z3f X params body scope ((X.mg "__name__").getD .none) c' ct)).get? b=some o:=λb o n e=>wo _ (hx b o n e)
  have i:∀b,b≠T->b≠c'->upd (upd H c' (.frz oc (.own 0))) T (.tbl #[rawInt lp.line,rawInt lp.col,.ref c']) b=H b:=λb n1 R=>by rw [zl n1,zl R]
  have l:∀b u,H b=some u->(∀ps,u≠ .tbl ps)->b≠T:=λb u e hu z=>by rw [z,a]at e;cases e;exact hu _ rfl
  have x:Inv X pins σ (upd (upd H c' (.frz oc (.own 0))) T (.tbl #[rawInt lp.line,rawInt lp.col,.ref c'])) {s with heap:=h'.push (z3f X params body scope ((X.mg "__name__").getD .none) c' ct),toks:=tk}:=by
   refine I.un ⟨λb o e n _ _=>up b o (λz=>by rw [z,a]at n;cases n) e,λb o e n _ _=>⟨o.slots,up b o (λz=>by rw [z,a]at n;cases n) e⟩,λb o e n _=> ?_,λb o e _=> ?_,λb xs e=> ?_,λb o u e=> ?_,λb ps e=> ?_⟩ λb u e=> ?_
   ·rw [i b (λz=>by rw [z,a]at n;cases n) (wW (wJ (wI e) j))];exact n
   ·by_cases hb:b=T
    ·exact⟨_,wo _ (hb ▸ L)⟩
    ·exact⟨o,up b o hb e⟩
   ·rw [i b (l b _ e λps z=>by cases z) (ne b _ e)];exact e
   ·rw [i b (l b _ e λps z=>by cases z) (ne b _ e)];exact e
   ·by_cases hb:b=T
    ·rw [hb,a]at e;cases e;rw [hb];exact⟨#[rawInt lp.line,rawInt lp.col,.ref c'],by rw [zj];simp⟩
    ·exact⟨#[],by rw [i b hb (ne b _ e),e];simp⟩
   ·by_cases hb:b=T
    ·rw [hb]at e ⊢;rw [zj]at e;cases e;exact wo _ L
    ·by_cases eU:b=c'
     ·rw [eU]at e ⊢;rw [zl J,zj]at e;cases e;exact⟨wo _ N,oc,wo _ N⟩
     ·rw [i b hb eU]at e;refine(I.hok b u e).stay (λd v hd q=>up d v ?_ q) (λd q=> ?_) λd xs q=> ?_
      ·rcases hd with hd | hd
       ·rw [hd];exact hb
       ·exact l d _ hd λps z=>by cases z
      ·rw [i d (l d _ q λps z=>by cases z) (ne d _ q)];exact q
      ·rw [i d (l d _ q λps z=>by cases z) (ne d _ q)];exact q
  have hsz:s.heap.objs.size<=h'.objs.size:=w1o (Nat.lt_of_le_of_lt j P);have ig:T < s.heap.objs.size:=wI D;refine h h'.objs.size c' ct ((X.mg "__name__").getD .none) _ _ (λb o n e=>by rw [i b n (ne b _ e)];exact e) ⟨zj,oc,vs,t,by rw [zl J,zj],hd,hv⟩ (x.pins_of λp hp=> ?_);rcases wB.mp hp with hp | hp
  ·exact x.pin p (wA _ hp)
  ·rw [wx.mp hp];refine⟨q5 _ rfl,?_,QC (wJ I.lt hsz),I.nofs hsz,λv z=>by cases z⟩
   show upd (upd H c' (.frz oc (.own 0))) T (.tbl #[rawInt lp.line,rawInt lp.col,.ref c']) h'.objs.size=none
   rw [i _ (QC (wJ ig hsz)) (QC P)];exact I.hok.fresh hsz
 ·have D:s.heap.get? T=some (PySem.W.tabObj #[rawInt lp.line,rawInt lp.col,.ref c']):=I.hok T _ a;refine PySem.W.kla_makeFunctionHit (ps:= #[rawInt lp.line,rawInt lp.col,.ref c']) (cv:= .ref c') (kY M) I.ok.glob K hc (C.keeps I.bk) D (by simp [TriplesOk,rawInt]) (by simp [codeAmong,rawInt]) O λct h' tk G hsz=> ?_
  have x:Inv X pins σ H {s with heap:=h'.push (z3f X params body scope ((X.mg "__name__").getD .none) c' ct),toks:=tk}:=I.kept λb o e=>wo _ (G b o e)
  refine h h'.objs.size c' ct ((X.mg "__name__").getD .none) H _ Kp.refl ⟨a,oc,vs,t,h2,h3,h4⟩ (x.pins_of λp hp=> ?_);rcases wB.mp hp with hp | hp
  ·exact x.pin p (wA _ hp)
  ·rw [wx.mp hp];exact⟨q5 _ rfl,I.hok.fresh hsz,QC (wJ I.lt hsz),I.nofs hsz,λv z=>by cases z⟩
end
noncomputable abbrev z8F(X:Cx)(A:Around)(scope:Scope)(N:List Str)(f:Addr)(cd:Value)(s:Shared)(H:Hp):Cx:=
 {prog:=X.prog,w:=X.w,K:=X.K,mg:=X.mg,base:=X.base,A:=A.deeper (PySem.W.envX (X.env.qual ++ "<lambda>") scope s.heap.objs.size f cd (yK X.env scope.names [])),N:=N,s₀:=s,H₀:=H,
  env:=PySem.W.envX (X.env.qual ++ "<lambda>") scope s.heap.objs.size f cd (yK X.env scope.names []),outer:=X.stack,
  stack:=PySem.W.envX (X.env.qual ++ "<lambda>") scope s.heap.objs.size f cd (yK X.env scope.names []) :: X.stack,ex:= [],fn:=λ_=>false,calm:=true,pn:= [],xe:=λ_ _=>False}
variable{fr:List Str}{ix:List Nat}{cd:Value}
section
variable{σ:St}
theorem z9G{v:V}{u:Value}{h1:Heap}{tk:Nat}(I:Inv X pins σ H s)(S:CompSc X scope x fr ix)(P:scope.names.lookup x=some .local)(D:∀y∈scope.names,y.2≠ .cell)(N:A.frames=some X.stack)(J:A.handled=none)(r:RelV v u)
  (Q:h1.Ns s.heap.objs.size (λy=> [(x,u)].reverse.lookup y)) (d:∀b o,s.heap.get? b=some o->h1.get? b=some o):
  Inv (z8F X A scope (x :: fr) f cd s H) [] (sub σ ix (some v)) H {s with heap:=h1,toks:=tk}:=by
 have a:=I.env0;have E:∀y∈scope.names,y.2= .free->∃c,X.env.cells.lookup y.1=some c:=λy hy d=>I.ok.has y.1 (S.clo y hy d)
 have look:∀y c,(yK X.env scope.names []).lookup y=some c->X.env.cells.lookup y=some c:=λy c e=>z20 scope.names [] E (λy c e=>by simp at e) y c e
 have n:∀b:Addr,b∉(z8F X A scope (x :: fr) f cd s H).ex:=λb z=>absurd (show b∈([]:List Addr)from z) (by simp)
 refine⟨⟨a.mod,S.kind,rfl,rfl,ww _,λy z c h1 h2=>I.ok.inj y z c (look y c h1) (look z c h2),λy hy=> ?_,λy c z _=>absurd z wO,λ_=>J,Around.frames_deeper N,.inr ⟨rfl,rfl⟩,λb z=>absurd z (n b),a.bs,a.bsz,λb _ _=>n b,λb z=>absurd z (n b),a.funs,a.frf⟩,
  rfl,a.bare,Un.kept d,⟨_,Q,λi y v' h1 h2 T=> ?_⟩,λy c h=> ?_,I.hok.fresh (ww _),λy c h=>I.freeC y c (look y c h),λp hp=>absurd (show p∈([]:List (Addr×Obj))from hp) (by simp),I.hok.kept d,?_⟩
 ·have hy:scope.names.lookup y=some .cell\/scope.names.lookup y=some .free:=hy;rcases hy with hy | hy
  ·exact absurd rfl (D _ (qT hy))
  ·exact z2E scope.names [] y (.inl (qT hy))
 ·cases i with
  | zero=>
   have L:x=y:=Option.some.inj h1;have R:some v=some v':=Option.some.inj h2;cases R;subst L;exact⟨u,r,.inl ⟨P,by simp⟩⟩
  | succ k=>
   have K:fr[k]? =some y:=h1;obtain⟨j,C,G,l⟩:=S.free k y K;have B:(ix.map λj=>(σ[j]?).getD none)[k]? =some (some v'):=h2;rw [wF,C]at B;have hσ:(σ[j]?).getD none=some v':=Option.some.inj B;have hσ':σ[j]? =some (some v'):=by
    cases q:σ[j]? with
    | none=>rw [q]at hσ;cases hσ
    | some o=>rw [q]at hσ;exact Q6 some hσ
   have t:=S.clo (y,.free) (qT l) rfl;obtain⟨m,hn,hl⟩:=I.loc;obtain⟨O,F,M⟩:=hl j y v' G hσ' (by
    rcases t with q | q
    ·exact .inr (.inl q)
    ·exact .inr (.inr q))
   refine⟨O,F,.inr ⟨.inr l,?_⟩⟩;obtain⟨c,hc⟩:=z2E (env:=X.env) scope.names [] y (.inl (qT l));refine⟨c,hc,?_⟩;rcases M with⟨q,_⟩ | ⟨_,c',e',z⟩
   ·have q':X.env.kindOf y=some .local:=q;rcases t with z | z
    ·rw [q']at z;cases z
    ·rw [q']at z;cases z
   ·rw [look y c hc]at e';cases e';exact z.keeps d
 ·obtain⟨w,z⟩:=I.cell y c (look y c h);exact⟨w,z.keeps d⟩
 ·show(sub σ ix (some v)).length=(x :: fr).length
  unfold sub;rw [wN,w9,wN,S.len]
theorem zaY{pm ct u:Value}{v:V}{tb:TE}{Q:VK}(I:Inv X pins σ H s)(B:(f,z3f X params body scope pm c ct)∈pins)(p:s.heap.CodeRec (.ref c) (X.env.qual ++ "<lambda>"))
  (S:CompSc X scope x fr ix) (i:scope.names.lookup x=some .local) (d:∀y∈scope.names,y.2≠ .cell) (O:scope.isCoroutine=false) (K:scope.isGenerator=false) (M:A.frames=some X.stack) (D:A.handled=none) (j:A.depth < recursionLimit)
  (C:bindArgs (PySem.W.kla_fn "<lambda>" (X.env.qual ++ "<lambda>") params body scope (yK X.env scope.names []) pm (.ref c) ct) ⟨[u],[]⟩=pure [(x,u)])
  (F:∀A f cd s H,PE (z8F X A scope (x :: fr) f cd s H) body tb) (r:RelV v u) (h:tb (sub σ ix (some v)) H Q):wpAny (model X.prog X.w) A (call (.ref f) [u]) (EP X pins σ Q) E s:=by
 have P:s.heap.NoLimit:=I.nolimit;have t:codeAny (model X.prog X.w) A (.call (.ref f) ⟨[u],[]⟩) (λr s'=>∃w,r= .ok (.ret w)/\CE X.stack X.prog X.w H s Q w s') s:=by
  refine PySem.W.kla_callFunE j (I.pin _ (wA _ B)).1 rfl O K rfl p ?_;rw [C];refine wV (wpAny_newFunctionEnv d (λy n=> ?_) (λh1 N a=>⟨?_,?_⟩) S.kind)
  ·rw [wx.mp n];exact i
  ·exact P.fresh _ a
  ·have l:∀b o,s.heap.get? b=some o->h1.get? b=some o:=λb o e=>a.extBut b o (wW (wI e)) (wo _ e)
   have G:=z9G (f:=f) (cd:= .ref c) (tk:=s.toks + 1) I S i d M D r N l
   show codeAny _ _ (.expr body (PySem.W.envX (X.env.qual ++ "<lambda>") scope s.heap.objs.size f (.ref c) (yK X.env scope.names []))) _ _
   refine PySem.W.kla_codeExpr (qY (F A f (.ref c) s H [] _ _ H Q G h) (λw s' hq=> ?_) λ_ _ z=>z.elim);obtain⟨y,H',J,L,q⟩:=hq;exact⟨w,rfl,y,H',J.os,J.bare,J.base,J.hok,L,q⟩
 refine w1G (w0r t λr s' hq=> ?_);obtain⟨w,rfl,hq⟩:=hq;exact I.after hq
end
theorem z5A{M:Model}{A:Around}{E:Value->Shared->Prop}{vs:List Value}{body:Value->PUnit->Sem (ForInStep PUnit)}{J:List Value->Shared->Prop}
  (c:∀i x ks s,vs[i]? =some x->ks.length=i->J ks s->wpAny M A (body x ⟨⟩) (λr s'=>r= .yield ⟨⟩/\∃k,J (ks ++ [k]) s') E s):
  ∀(r ks:List Value) (s:Shared),(∀j x,r[j]? =some x->vs[ks.length + j]? =some x)->J ks s->wpAny M A (forIn r PUnit.unit body) (λ_ s'=>∃a,a.length=ks.length + r.length/\J a s') E s
 | [],ks,s,_,b=>by
  rw [List.forIn_nil];exact wV ⟨ks,by simp,b⟩
 | x :: r,ks,s,hr,b=>by
  rw [List.forIn_cons];refine wy (qY (c ks.length x ks s (hr 0 x rfl) rfl b) (λq s' hq=> ?_) λ_ _ x=>x);obtain⟨rfl,k,h2⟩:=hq
  show wpAny M A (forIn r PUnit.unit body) _ E s'
  refine qY (z5A c r (ks ++ [k]) s' (λj y d=> ?_) h2) (λ_ s2 ⟨a,e,q⟩=>⟨a,?_,q⟩) λ_ _ x=>x
  ·rw [wg,wS,Nat.add_assoc,Nat.add_comm 1 j];exact hr (j + 1) y d
  ·rw [e,wg,wN,wN,Qo]
   lia
variable{xs:List V}{vs:List Value}
section
variable{σ:St}
theorem z9c(a:zL xs vs){i:Nat}(h:i < xs.length):RelV (xs.getD i .non) (vs.getD i Value.none):=by
 obtain⟨u,e,r⟩:=a.get (wa h);rw [wb,wa h,wb,e];exact r
def z5C{xs:List V}{vs:List Value}(b:zL xs vs):∀{a:List Nat},(∀j∈a,j < xs.length)->zL (a.map λi=>xs.getD i .non) (a.map λi=>vs.getD i Value.none)
 | [],_=> .nil
 | j :: a,h=> .cons (z9c b (h j qy)) (z5C b λm hm=>h m (wX _ hm))
theorem z8w{l:Addr}{kz:List Int}(I:Inv X pins σ H s)(hl:s.heap.IsList l vs.toArray)(rv:zL xs vs)(gQ:vs.length < 64)(sG:kz.length=vs.length)
  (hc:∀(i:Nat) (u:Value) (pl:List (Addr×Obj)) (s':Shared),vs[i]? =some u->Inv X (pins ++ pl) σ H s'->
   wpAny (model X.prog X.w) X.A.in1.in1 (call (.ref f) [u]) (λw s2=>(∃t,w= .int (kz.getD i 0) t)/\Inv X (pins ++ pl) σ H s2) (λ_ _=>False) s')
  (h:∀(D:Addr) (is:List Nat) (s':Shared),H D=none->is.Perm (List.range vs.length)->is.Pairwise (Rk λi=>kz.getD i 0)->Inv X pins σ (upd H D (.lst (is.map λi=>xs.getD i .non))) s'->Q (.ref D) s'):
  wpAny (model X.prog X.w) X.A (call (.builtin "sorted") [.ref l] [(Str.ofString "key",.ref f)]) Q E s:=by
 have hlen:=rv.length;refine call_function_entry_kw kind_sorted plain_sorted entry_sorted (ksk_s1 _ _) ?_;unfold Builtin.«sorted»;refine wy (m:=checkCount "sorted" 1 1 _) (wV ?_);refine wy (collect_list hl ?_ (by rw [Qi];lia));refine wy (wpAny_newList ?_ (by rw [Qi];lia));obtain⟨h1,gT⟩:∃h1,(s.heap.push (seqObj "list" #[] 0)).update s.heap.objs.size (Obj.mapSeq (· ++ vs.toArray))=h1:=⟨_,rfl⟩
 have kp1:∀b o,s.heap.get? b=some o->h1.get? b=some o:=λb o e=>by
  have r:=wI e;rw [<-gT,w1j _ _ _ _ (wW r)];exact wo _ e
 have B:s.heap.objs.size<=h1.objs.size:=by rw [<-gT,Heap.size_update,Qc];lia
 rw [gT];have O:(h1.push (seqObj "list" vs.toArray 0)).get? h1.objs.size=some (seqObj "list" vs.toArray 0):=q5 _ rfl;generalize hD:h1.objs.size=D at O B ⊢;have U:H D=none:=I.hok.fresh B;have DL:D≠X.env.locals:=QC (wJ I.lt B);have Ds:X.s₀.heap.objs.size<=D:=wP I.sz B;have Dc:∀y c,X.env.cells.lookup y=some c->c≠D:=λy c e=>by
  obtain⟨v,q⟩:=I.cell y c e;exact wW (wJ q.lt B)
 have Dp:∀p∈X.pn ++ pins,p.1≠D:=λp hp=>wW (wJ (wI (I.pin p hp).1) B)
 refine wy (QE (wpAny_call_entry_kw slot_list_sort ⟨_,O,rfl⟩ entry_list_sort ?body (ksk_l1 _ _)))
 case body=>
 show wpAny (model X.prog X.w) X.A.in1.in1 (Builtin.«list.sort» ⟨[.ref D],[(Str.ofString "key",.ref f)]⟩) _ _ _
 rw [ksk_t1];unfold ksk_tree;refine wy (listItems_at O rfl ?_);refine wy (w16 O rfl ?_ (by rw [wz,Qi];lia) (qQ _));obtain⟨d,S⟩:∃d,((h1.push (seqObj "list" vs.toArray 0)).update D (Obj.mapSeq λ_=>(#[]:Array Value))).get? D=some (seqObj "list" #[] d):=⟨_,get?_update_seq O λ_=> #[]⟩
 obtain⟨h2,sI⟩:∃h2,(h1.push (seqObj "list" vs.toArray 0)).update D (Obj.mapSeq λ_=>(#[]:Array Value))=h2:=⟨_,rfl⟩
 have kp2:∀b o,s.heap.get? b=some o->h2.get? b=some o:=λb o e=>by
  rw [<-sI,w1j _ _ _ _ (wW (wJ (wI e) B))];exact wo _ (kp1 b o e)
 rw [sI]at S ⊢;refine wy (seqEpoch_at S rfl ?_);refine wy (wpAny_newTuple ?_ (by show vs.length<=_;rw [Qi];lia));refine wy (wpAny_newList ?_ (qQ _));refine QE ?_;obtain⟨K,oj⟩:∃K,(h2.push (seqObj "tuple" vs.toArray 0)).push (seqObj "list" #[] 0)=K:=⟨_,rfl⟩
 obtain⟨a,ol⟩:∃a,(h2.push (seqObj "tuple" vs.toArray 0)).objs.size=a:=⟨_,rfl⟩
 have kp3:∀b o,h2.get? b=some o->K.get? b=some o:=λb o e=>by
  rw [<-oj];exact wo _ (wo _ e)
 have vX:K.get? a=some (seqObj "list" #[] 0):=by rw [<-oj,<-ol];exact q5 _ rfl
 have om:D < a:=by rw [<-ol,Qc];exact Q0 (wI S)
 have F:s.heap.objs.size<=a:=wP B (w1o om);have Z:H a=none:=I.hok.fresh F;have Y:a≠X.env.locals:=QC (wJ I.lt F);have sJ:X.s₀.heap.objs.size<=a:=wP I.sz F;have kc:∀y c,X.env.cells.lookup y=some c->c≠a:=λy c e=>by
  obtain⟨v,q⟩:=I.cell y c e;exact wW (wJ q.lt F)
 have on:∀p∈X.pn ++ pins,p.1≠a:=λp hp=>wW (wJ (wI (I.pin p hp).1) F)
 show wpAny (model X.prog X.w) X.A.in1.in1 (ksk_rest D (.ref f) false vs.toArray d (.ref (h2.push (seqObj "tuple" vs.toArray 0)).objs.size)) _ _ {s with heap:=(h2.push (seqObj "tuple" vs.toArray 0)).push (seqObj "list" #[] 0)}
 rw [oj,ol];have Nf:∀{b:Addr},s.heap.objs.size<=b->b∉X.fs:=λr=>I.nofs r
 have I3:Inv X (pins ++ [(a,seqObj "list" ([]:List Value).toArray 0),(D,seqObj "list" #[] d)]) σ H {s with heap:=K}:=(I.kept (t':=s.toks) λb o e=>kp3 b o (kp2 b o e)).pins_of λp hp=>by
  have I3:Inv X pins σ H {s with heap:=K}:=I.kept (t':=s.toks) λb o e=>kp3 b o (kp2 b o e)
  rcases wB.mp hp with hp | hp
  ·exact I3.pin p (wA _ hp)
  ·rcases wG.mp hp with rfl | hp
   ·exact⟨vX,Z,Y,Nf F,λv z=>by cases z⟩
   ·rw [wx.mp hp];exact⟨kp3 _ _ S,U,DL,Nf B,λv z=>by cases z⟩
 unfold ksk_rest;refine wy (wpAny_rule ?_)
 first
  | rw [List.forIn_toArray]
  | (rw [<-Array.forIn_toList];simp only [List.toList_toArray])
  | rw [<-Array.forIn_toList]
 refine wy (qY (z5A (vs:=vs) (J:=λks s'=>ks.length<=vs.length/\zL ((kz.take ks.length).map V.int) ks/\∃e,Inv X (pins ++ [(a,seqObj "list" ks.toArray e),(D,seqObj "list" #[] d)]) σ H s') (λi x ks s' hx hi hJ=> ?_) vs [] _ (λj y N=>by simpa using N) ⟨qQ _,.nil,0,I3⟩) (λ_ s' hq=> ?_) λ_ _ x=>x)
 ·obtain⟨gS,M,e,J⟩:=hJ;have vY:i < vs.length:=(we.mp hx).1;refine wy (wpAny_attempt (qY (hc i x _ s' hx J) (λk s2 hk=> ?_) λ_ _ hF=>hF.elim));obtain⟨⟨t,rfl⟩,L⟩:=hk;have sK:=(L.pin (a,seqObj "list" ks.toArray e) (by simp)).1;have s1:=Heap.SameBut.update s2.heap a (Obj.mapSeq (·.push (Value.int (kz.getD i 0) t)));have ea:(List.toArray ks).push (Value.int (kz.getD i 0) t)=List.toArray (ks ++ [Value.int (kz.getD i 0) t]):=by simp
  obtain⟨c2,cJ⟩:∃c2,(s2.heap.update a (Obj.mapSeq (·.push (Value.int (kz.getD i 0) t)))).get? a=some (seqObj "list" (List.toArray (ks ++ [Value.int (kz.getD i 0) t])) c2):=⟨_,by rw [<-ea];exact get?_update_seq sK (·.push (Value.int (kz.getD i 0) t))⟩
  try dsimp only
  refine wy (w16 sK rfl ?_ (by rw [wz,Qi];lia) (wP (Nat.le_of_eq (Array.size_push ..)) (by rw [wz,Qi];lia)));refine wV ⟨rfl,Value.int (kz.getD i 0) t,by rw [wg,wS];lia,?_,c2,?_⟩
  ·rw [wg,wS,hi,wQ,wa (by lia),wD];rw [hi]at M;refine M.append (.cons ⟨t,?_⟩ .nil);rw [wb,wa (by lia)]
   rfl
  ·have J3:Inv X (pins ++ [(D,seqObj "list" #[] d)]) σ H s2:=L.pins_of λp hp=>by
    rcases wB.mp hp with hp | hp
    ·exact L.pin p (wA _ (wZ _ hp))
    ·exact L.pin p (wA _ (wA _ (wX _ hp)))
   have J4:Inv X (pins ++ [(D,seqObj "list" #[] d)]) σ H {s2 with heap:=s2.heap.update a (Obj.mapSeq (·.push (Value.int (kz.getD i 0) t)))}:=J3.turned (it:=a) (t':=s2.toks) (λb o r q=>(s1.2 b r).trans q) Z Y (.inr sJ) kc λp hp=>by
    rcases wB.mp hp with hp | hp
    ·exact on p (wZ _ hp)
    ·rcases wB.mp hp with hp | hp
     ·exact on p (wA _ hp)
     ·rw [wx.mp hp];exact wW om
   refine J4.pins_of λp hp=> ?_
   rcases wB.mp hp with hp | hp
   ·exact J4.pin p (wA _ (wZ _ hp))
   ·rcases wG.mp hp with rfl | hp
    ·exact⟨cJ,Z,Y,Nf F,λv z=>by cases z⟩
    ·exact J4.pin p (wA _ (wA _ hp))
 ·obtain⟨ks,vZ,gS,M,e,J⟩:=hq;have T:ks.length=vs.length:=by simpa using vZ
  rw [T,qS (Nat.le_of_eq sG)]at M
  try dsimp only
  have ok:=(J.pin (a,seqObj "list" ks.toArray e) (by simp)).1;have oD:=(J.pin (D,seqObj "list" #[] d) (by simp)).1;refine wy (listItems_at ok rfl ?_);have fin:∀(is:List Nat) (st:SortSt),is.Perm (List.range vs.length)->is.Pairwise (Rk λi=>kz.getD i 0)->(arrOf st).map (·.2)=(is.map λi=>vs.getD i Value.none).toArray->failedOf st=none->
    wpAny (model X.prog X.w) X.A.in1.in1 (ksk_tail D false d (.ref a) st) (λfin s'=>∃v,fin= .done (.ret v)/\wpAny (model X.prog X.w) X.A.in1 (ret (.ref D)) (λfin s'=>∃v,fin= .done (.ret v)/\Q v s') E s') E s':=by
   intro is st pm pw oo hf;have hsz:(is.map λi=>vs.getD i Value.none).length=vs.length:=by rw [w9,pm.length_eq,w0L]
   have t1:=Heap.SameBut.update s'.heap a (Obj.mapSeq λ_=>(#[]:Array Value));have oq:(s'.heap.update a (Obj.mapSeq λ_=>(#[]:Array Value))).get? D=some (seqObj "list" #[] d):=(t1.2 D (wW om)).trans oD;have t2:=Heap.SameBut.update (s'.heap.update a (Obj.mapSeq λ_=>(#[]:Array Value))) D (Obj.mapSeq λ_=>(is.map λi=>vs.getD i Value.none).toArray);obtain⟨c3,mB⟩:∃c3,((s'.heap.update a (Obj.mapSeq λ_=>(#[]:Array Value))).update D (Obj.mapSeq λ_=>(is.map λi=>vs.getD i Value.none).toArray)).get? D=some (seqObj "list" (is.map λi=>vs.getD i Value.none).toArray c3):=⟨_,get?_update_seq oq λ_=>(is.map λi=>vs.getD i Value.none).toArray⟩
   unfold ksk_tail
   try dsimp only
   rw [oo];refine wy (w16 ok rfl ?_ (by rw [wz,Qi];lia) (qQ _));refine wy (wpAny_letGo ?_);refine wy (seqEpoch_at oq rfl ?_);refine wy (w16 oq rfl ?_ (qQ _) (wP (Nat.le_of_eq (by show(is.map λi=>vs.getD i Value.none).toArray.size=vs.length;rw [wz,hsz])) (by rw [Qi];lia)));rw [hf];simp only [bne_self_eq_false,w03,w1d];refine wV ⟨_,rfl,wV ⟨_,rfl,?_⟩⟩;have J0:Inv X pins σ H s':=J.pins_of λp hp=>J.pin p (wA _ (wZ _ hp))
   have J1:Inv X pins σ H {s' with heap:=s'.heap.update a (Obj.mapSeq λ_=>(#[]:Array Value))}:=J0.turned (it:=a) (t':=s'.toks) (λb o r q=>(t1.2 b r).trans q) Z Y (.inr sJ) kc on;have L:Inv X pins σ H {s' with heap:=(s'.heap.update a (Obj.mapSeq λ_=>(#[]:Array Value))).update D (Obj.mapSeq λ_=>(is.map λi=>vs.getD i Value.none).toArray)}:=Inv.turned (s:={s' with heap:=s'.heap.update a (Obj.mapSeq λ_=>(#[]:Array Value))}) (it:=D) J1 (t':=s'.toks) (λb o r q=>(t2.2 b r).trans q) U DL (.inr Ds) Dc Dp;refine h D is _ U pm pw (L.adopt U DL Ds Dc Dp ⟨?_,is.map λi=>vs.getD i Value.none,c3,z5C rv λj N=> ?_,mB⟩)
   ·rw [w9,pm.length_eq,w0L];exact jb (by lia)
   ·rw [hlen];exact Qb.mp (pm.mem_iff.mp N)
  unfold ksk_end
  try dsimp only
  by_cases h2:vs.toArray.size < 2
  ·have R:vs.length < 2:=by simpa using h2
   rw [wY h2,wY h2];simp only [w03,w1d];refine wy (wV ?_);rw [StateT.run_pure];refine wy (wV ?_);refine fin (List.range vs.length) _ (List.Perm.refl _) ?_ ?_ rfl
   ·exact zb2 R
   ·show(ks.toArray.zip vs.toArray).map (·.2)=_
    exact z5q R T
  ·have R:2<=vs.length:=by simpa using h2
   rw [wM h2,wM h2,ksk_kind (keys:=ks.toArray) (kz:=kz) (by simpa using intsAre_of M) (by simp;lia)];simp only [w03,w1d];refine wy (wV ?_);refine wy (qY (PySem.W.kat_run (κ:=oneType') (Q:=λP s2=>∃p:Array Nat,(arrOf P).map (·.2)=(p.toList.map λi=>vs.getD i Value.none).toArray/\failedOf P=none/\s2=s'/\p.toList.Perm (List.range vs.length)/\p.toList.Pairwise (Rk λi=>kz.getD i 0))
    (vs:=vs) (ks:=ks) (G:=λp s2=>s2=s'/\p.toList.Perm (List.range vs.length)/\p.toList.Pairwise (Rk λi=>kz.getD i 0)) T R gQ (λp P s2 a1 a2 a3 a4=>⟨p,PySem.W.kat_snds T a2,a3,a4⟩)
    (z8A (n:=vs.length) (k:=λi=>kz.getD i 0) (λi j C hi N hC=> ?_) (jW (λp hp=>⟨rfl,hp⟩) (z9n (by lia) _)))) ?_ λ_ _ e=>e)
   ·unfold PySem.W.kas_ask;have at':∀m,m < vs.length->∃t,ks.getD m Value.none= .int (kz.getD m 0) t:=λm hm=>by
     obtain⟨u,eu,t,rfl⟩:=M.get (i:=m) (x:= .int kz[m]) (by rw [wF,wa (by lia)];rfl);refine⟨t,?_⟩;rw [wb,eu,wb,wa (by lia)]
     rfl
    obtain⟨t,d⟩:=at' i hi;obtain⟨u,e2⟩:=at' j N
    show wpAny (model X.prog X.w) X.A.in1.in1 (keyLt' oneType' (ks.getD i Value.none) (ks.getD j Value.none)) C (λ_ _=>False) s'
    rw [d,e2];exact PySem.W.kat_lt_int hC
   ·rintro⟨⟨⟩,P⟩ s2 ⟨p,e0,h4,rfl,pm,pw⟩;exact fin p.toList P pm pw e0 h4
end
theorem jJ.neL{K:W.Frag}{P:Program}{w:World}{H:Hp}{T a:Addr}{lp:Pos}{q:Str}{xs:List V}(h:jJ H T lp q)(e:Rd H a (.lst xs)):a≠T:=by
 rcases e with e | ⟨o,e⟩
 ·exact h.ne e λps z=>by cases z
 ·exact h.ne e λps z=>by cases z
def zbo(T:Addr)(lp:Pos)(q:Str)(te:TE)(ix:List Nat)(tb:TE):TE:=λσ H Q=>te σ H λx H1=>∃(l:Addr) (xs:List V) (kz:List Int),x= .ref l/\Rd H1 l (.lst xs)/\xs.length < 64/\kz.length=xs.length/\jJ H1 T lp q/\
 (∀H2,Kp T H1 H2->∀(i:Nat) v,xs[i]? =some v->tb (sub σ ix (some v)) H2 λy H'=>y= .int (kz.getD i 0)/\H'=H2)/\
 ∀(c:Addr) (H2:Hp) (D:Addr) (is:List Nat),Kp T H1 H2->z4s H2 T lp q c->H2 D=none->is.Perm (List.range xs.length)->is.Pairwise (Rk λi=>kz.getD i 0)->Q (.ref D) (upd H2 D (.lst (is.map λi=>xs.getD i .non)))
section
variable{e:Expr}{te tb:TE}{kp p pos:Pos}{k:Nat}
theorem z8m(R:X.calm=true)(hr:Room k X.A)(N:Gl X "sorted")(hm:X.mg "sorted"=none)(he:PE X e te)(hc:X.env.code= .ref c)(C:PySem.W.CodeHd X.base c T)(B:X.base.BuiltinsAt X.mg T)(S:CompSc X scope x fr ix)
  (M:∀A f cd s H,PE (z8F X A scope (x :: fr) f cd s H) body tb)
  (fC:scope.names.lookup x=some .local:=by rfl) (L:∀y∈scope.names,y.2≠ .cell:=by decide +kernel) (oi:scope.isCoroutine=false:=by rfl) (g6:scope.isGenerator=false:=by rfl) (dM:defaultsOf params X.env=([],[]):=by rfl)
  (aI:∀(pm ct u:Value) (c:Addr),bindArgs (PySem.W.kla_fn "<lambda>" (X.env.qual ++ "<lambda>") params body scope (yK X.env scope.names []) pm (.ref c) ct) ⟨[u],[]⟩=pure [(x,u)]:=by intro _ _ _ _;rfl)
  (hs:starEach [e] X.env= [(false,eval e X.env)]:=by rfl):
  PE X (.Call (.Name "sorted" p) [e] [⟨some "key",.Lambda params body scope lp,kp⟩] pos) (zbo T lp (X.env.qual ++ "<lambda>") te ix tb):=by
 intro pins s σ H Q I h;refine Qk (z0Z I N hm PyProof.Rows.boot_sorted ?_ (by decide) (by decide));refine callWith_kw (he:=by rw [hs];rfl) (hplain:=by rw [hs];rfl) (by
  rw [hs];refine Qj (thn (he pins s σ H _ I h) ?_);rintro u s1 ⟨y,H1,I1,r1,l,xs,kz,Z,hq,gQ,sG,j,hk,q⟩;refine w0e ?_;subst Z;cases r1;refine kws_cons ?_;refine z70 I1 hc C B j dM S.clo λf c' ct pm H2 s2 kp2 r G=> ?_
  refine kws_nil ?_;have U:Rd H2 l (.lst xs):=by
   have n:=j.neL (K:=X.K) (P:=X.prog) (w:=X.w) hq;rcases hq with hq | ⟨o,hq⟩
   ·exact .inl (kp2 _ _ n hq)
   ·exact .inr ⟨o,kp2 _ _ n hq⟩
  obtain⟨vs,b,pl,hz⟩:=G.list (.inl U);have hlen:=b.length;refine z8w (kz:=kz) G pl.isList b (by lia) (by lia) (λi u Y O d J=> ?_) λD is O nD a pw J=> ?_
  ·have hi:i < xs.length:=by
    have:=(we.mp d).1
    lia
   have F:=z9c b hi;rw [wb (l:=vs),d]at F;refine qY (zaY (A:=X.A.in1.in1) (E:=λ_ _=>False) J (wZ _ (wA _ (wx.mpr rfl))) (r.rec J.hok) S fC L oi g6 (by exact J.ok.frames) (J.ok.hd R) (by exact hr.depth) (aI _ _ _ _) M F (hk H2 kp2 i _ (by rw [wb,wa hi];rfl))) (λw s4 hw=> ?_) λ_ _ z=>z
   obtain⟨y,H',J4,ry,rfl,rfl⟩:=hw;obtain⟨t,rfl⟩:=ry;exact⟨⟨t,rfl⟩,J4⟩
  ·refine⟨.ref D,_,J.pins_of λp hp=>J.pin p (wA _ (wZ _ hp)),rfl,q c' H2 D is kp2 r nD (by rw [hlen];exact a) pw⟩)
end
noncomputable def codeTabIn(K:W.Frag)(T:Addr):Bool:=K.any λp=>PySem.W.codeHdIn K p.1 T
noncomputable def codeOf(K:W.Frag)(cd:Value)(T:Addr):Bool:=match cd with
 | .ref c=>PySem.W.codeHdIn K c T
 | _=>false
variable{K:W.Frag}
theorem codeOf_ex(h:codeOf K cd T=true):∃c,cd= .ref c/\PySem.W.codeHdIn K c T=true:=by
 unfold codeOf at h;split at h
 ·exact⟨_,rfl,h⟩
 ·cases h
theorem z8d(X:K.In h)(e:codeTabIn K T=true):∃c,PySem.W.CodeHd h c T:=by
 obtain⟨p,_,hp⟩:=QF.mp e;exact⟨p.1,PySem.W.codeHd_of_K X hp⟩
variable{Ts:List Addr}
theorem z9Q{mg mb:Str->Option Value}{CX:CXT}{k:Nat}{G a:Addr}{c:Shared}{ns:List Int}
  (O:K.In c.heap) (D:c.heap.Ns mainGlobals mg) (f:c.heap.Ns builtinsNs mb) (mC:∀x:Str,x≠"__name__"->mb x=bootBuiltins x) (ot:c.heap.NoLimit) (X:c.gens= #[])
  (xb:∃t i,mg "__builtins__"=some (.ref t)/\t≠builtinsNs/\c.heap.get? t=some i/\i.cls= .type "module"/\i.dict=some builtinsNs/\i.data= .plain)
  (p:∀T∈Ts,c.heap.get? T=some (PySem.W.tabObj #[])) (U:∀T∈Ts,isCodeTable c.heap T) (iC:∀T∈Ts,K.lookup T=none)
  (ha:c.heap.get? a=some {cls:= .type "list",data:= .seq vs.toArray}) (hi:IntsAre vs ns) (hl:ns.length<=sizeLine) (hr:Room k callerA)
  (F:∀base:Heap,K.In base->base.Ns mainGlobals mg->(∀T∈Ts,base.BuiltinsAt mg T)->FnOk P w K mg base CX k G fd [x] sp) (aI:∀(s:Shared) (u:Value),BindsTo s fd ⟨[u],[]⟩ [(x,u)])
  (ao:∀H:Hp,SqL K H a (ns.map V.int)->(∀T∈Ts,H T=some (.tbl #[]))->sp [.ref a] H (λv _=>v= .bl true) λ_ _ _=>False)
  (xc:∀H e s',CX [] H c (λ_ _ _=>False) e s'->False):
  codeAny (model P w) callerA (.call (.ref G) ⟨[.ref a],[]⟩) (λr s'=>r= .ok (.ret (.bool true))/\OldK c.heap s'.heap/\s'.os=c.os/\AllBare s'.gens) c:=by
 have M:=z5m hi;have Q:=hi.length;have aT:a∉Ts:=λz=>by
  have:=p a z;rw [ha]at this;cases this
 have core:∀H:Hp,(∀b,H b=none\/(b∈Ts/\H b=some (.tbl #[]))\/(b=a/\K.lookup a=none/\H b=some (.frz {cls:= .type "list",data:= .seq vs.toArray} (.lst (ns.map V.int)))))->SqL K H a (ns.map V.int)->(∀T∈Ts,H T=some (.tbl #[]))->
   codeAny (model P w) callerA (.call (.ref G) ⟨[.ref a],[]⟩) (λr s'=>r= .ok (.ret (.bool true))/\OldK c.heap s'.heap/\s'.os=c.os/\AllBare s'.gens) c:=by
  intro H y hS R;have hok:HOk P w H c.heap:=λb u e=>by
   rcases y b with z | ⟨m,z⟩ | ⟨rfl,_,z⟩
   ·rw [z]at e;cases e
   ·rw [z]at e;cases e;exact p b m
   ·rw [z]at e;cases e;exact⟨ha,by rw [w9];exact hl,vs,_,M,ha⟩
  have C:∀{b:Addr} {o:Obj},c.heap.get? b=some o->H b=none->(z54 c.heap H).get? b=some o:=λe n=>zbM e n
  have I:∀{b:Addr} {o:Obj},c.heap.get? b=some o->(∀xs n,o.data≠ .seq xs n)->(∀xs,o.data≠ .fields xs)->H b=none:=λ{b o} e d1 d2=>by
   rcases y b with z | ⟨m,_⟩ | ⟨rfl,_,_⟩
   ·exact z
   ·have:=p b m;rw [e]at this;cases this;exact absurd rfl (d2 _)
   ·rw [ha]at e;cases e;exact absurd rfl (d1 _ _)
  have cZ:∀{b:Addr} {o:Obj} {es:Array DictEntry} {ep:Nat},c.heap.get? b=some o->o.data= .dict es ep->H b=none:=λ{b o es ep} e d=>I e (λxs n z=>by rw [d]at z;cases z) λxs z=>by rw [d]at z;cases z
  have A:∀{b:Addr} {m:Str->Option Value},c.heap.Ns b m->(z54 c.heap H).Ns b m:=λ{b m} ⟨o,es,ep,e,d,r⟩=>⟨o,es,ep,C e (cZ e d),d,r⟩
  have L:K.In (z54 c.heap H):=λb o e=>C (O b o e) (by
   rcases y b with z | ⟨m,_⟩ | ⟨rfl,z,_⟩
   ·exact z
   ·rw [iC b m]at e;cases e
   ·rw [z]at e;cases e)
  have hM:Mod K mg (z54 c.heap H):=⟨L,A D,⟨mb,A f,mC⟩,let ⟨mc,h1,h2⟩:=ot;⟨mc,A h1,h2⟩⟩;have Y:∀T∈Ts,(z54 c.heap H).BuiltinsAt mg T:=λT m=>by
   obtain⟨t,i,b1,b2,j,S,Z,l⟩:=xb;refine⟨t,i,b1,b2,λz=> ?_,λz=> ?_,C j (I j (λxs n q=>by rw [l]at q;cases q) λxs q=>by rw [l]at q;cases q),S,Z,l⟩
   ·obtain⟨o,es,ep,e,d,_⟩:=D;rw [z,e]at j;cases j;rw [l]at d;cases d
   ·have:=p T m;rw [<-z,j]at this;cases this;cases l
  have e0:Env0 P w K mg (z54 c.heap H) callerA [] c H:=⟨rfl,hM,λb o e=>zdl e,Nat.le_of_eq (zay _ _),trivial,λb f=>absurd (show b∈([]:List Addr)from f) (by simp),hok,.of_eq X⟩;refine w0r ((F _ L (A D) Y).run callerA [] c H ⟨[.ref a],[]⟩ [.ref a] [.ref a] _ _ hr e0 (aI c (.ref a)) (.cons rfl .nil) (ao H hS R)) λr s' h=> ?_
  cases r with
  | error e=>exact(xc H e s' h).elim
  | ok fl=>
   cases fl with
   | next=>exact False.elim h
   | brk=>exact False.elim h
   | cont=>exact False.elim h
   | ret u=>
    obtain⟨v,H',os,bare,un,J,r',q⟩:=h;have q':v= .bl true:=q;subst q';obtain rfl:u=Value.bool true:=r';have at':∀b o,c.heap.get? b=some o->s'.heap.get? b=some o\/(b∈Ts/\o=PySem.W.tabObj #[]/\∃more,s'.heap.get? b=some (PySem.W.tabObj more)):=λb o e=>by
     rcases y b with z | ⟨m,z⟩ | ⟨rfl,_,z⟩
     ·exact .inl (un.keep b o e z (by intro z;exact absurd (show b∈([]:List Addr)from z) (by simp)) (by simp))
     ·obtain⟨more,B⟩:=un.tbls b _ z;have E:s'.heap.get? b=some (PySem.W.tabObj (#[] ++ more)):=J b _ B;have N:=p b m;rw [e]at N;exact .inr ⟨m,Option.some.inj N,_,E⟩
     ·have B:=un.frzs b _ _ z;obtain⟨E,_⟩:=J b _ B;rw [ha]at e;cases e;exact .inl E
    refine⟨rfl,⟨λb o e=> ?_,λb o e=> ?_⟩,os,bare⟩
    ·rcases at' b o e with z | ⟨m,rfl,more,z⟩
     ·exact .inl z
     ·exact .inr (.inl ⟨U b m,rfl,#[],more,rfl,by rw [Array.empty_append];exact z⟩)
    ·rcases at' b o e with z | ⟨m,rfl,more,z⟩
     ·exact⟨_,z⟩
     ·exact⟨_,z⟩
 cases hk:K.lookup a with
 | some o=>
  have e:=O a o hk;rw [ha]at e;cases e;refine core (λb=>if b∈Ts then some (.tbl #[])else none) (λb=> ?_) (.inr ⟨_,vs.toArray,_,hk,rfl,rfl,rfl,by rw [wz,Q];exact hl,by simpa using M⟩) λT m=>wY m
  by_cases m:b∈Ts
  ·exact .inr (.inl ⟨m,wY m⟩)
  ·exact .inl (wM m)
 | none=>
  refine core (λb=>if b∈Ts then some (.tbl #[])else if b=a then some (.frz {cls:= .type "list",data:= .seq vs.toArray} (.lst (ns.map V.int)))else none) (λb=> ?_) (.inl (.inr ⟨{cls:= .type "list",data:= .seq vs.toArray},(wM aT).trans (wY rfl)⟩)) λT m=>wY m
  by_cases m:b∈Ts
  ·exact .inr (.inl ⟨m,wY m⟩)
  ·by_cases f:b=a
   ·exact .inr (.inr ⟨f,hk,(wM m).trans (wY f)⟩)
   ·exact .inl ((wM m).trans (wM f))
theorem walk_ofT{l:PySem.W.OpenLaw}{n k:Nat}{q:Program}{loose:List Str}{I:(Str->Option Value)->Heap->Prop}{r:World->Heap->Prop}{d:DefRec}{K:Params->W.Frag}{sp:World->Sp}
  (hn:l.most=some n) (M:n<=sizeLine) (N:d.params.defaults= []) (hr:Room k callerA)
  (B:∀(w:World) (h:Heap),r w h->(K w.params).In h/\∀T∈Ts,h.get? T=some (PySem.W.tabObj #[]))
  (J:∀(w:World),∀T∈Ts,codeTabIn (K w.params) T=true) (y:∀(w:World),∀T∈Ts,(K w.params).lookup T=none)
  (F:∀(w:World) (mg:Str->Option Value) (j:Addr) (h:Heap),(K w.params).In h->h.Ns mainGlobals mg->mg d.name=some (.ref j)->
   ∃fd:FuncData,(∀(s:Shared) (u:Value),BindsTo s fd ⟨[u],[]⟩ [(x,u)])/\
    ∀base:Heap,(K w.params).In base->base.Ns mainGlobals mg->(∀T∈Ts,base.BuiltinsAt mg T)->FnOk l.prog w (K w.params) mg base CX0 k j fd [x] (sp w))
  (A:∀(w:World) (H:Hp) (a:Addr) (ns:List Int),ns.length<=n->SqL (K w.params) H a (ns.map V.int)->(∀T∈Ts,H T=some (.tbl #[]))->sp w [.ref a] H (λv _=>v= .bl true) λ_ _ _=>False):
  PySem.W.WalkO q loose I r l.row.toRowW d [] (λf vs=>PySem.call f vs):=by
 refine Att.attach_call hn N λw s₀ S mg mb j o pm cd aS a vs ns G Y Q hd R O P hints hlen L=> ?_
 obtain⟨p,i⟩:=B w _ Y;obtain⟨fd,E,t⟩:=F w mg j _ p G.T.g O;exact z9Q p G.T.g G.T.b G.T.builtins G.T.nolimit L G.T.bmain i (λT m=>by
  obtain⟨c,C⟩:=z8d p (J w T m);exact(C.tab (i T m)).isCodeTable) (y w) P hints (wP hlen M) hr t E (λH D i=>A w H a ns hlen D i) λH e s' z=>z
end L2

namespace L2
open PySem PySem.Spec PyProof.Rows
theorem z7F:∀{xs:List V} {us:List Value},zL xs us->zL xs.reverse us.reverse
 | _,_,.nil=> .nil
 | _,_,.cons r t=>by rw [QQ,QQ];exact(z7F t).append (.cons r .nil)
variable{l:Addr}{items:Array Value}
section
variable{prog:Program}{w:World}{A:Around}{E:Value->Shared->Prop}{s:Shared}{r:Addr}
theorem z6d:typeLookup (.type "list_reverseiterator") "__len__"=pure none:=by rw [typeLookup_type,builtinLookup_eq_fast];kernel_rfl
theorem z52:typeLookup (.type "list_reverseiterator") "__length_hint__"=pure (some (.builtin "list_reverseiterator.__length_hint__")):=by rw [typeLookup_type,builtinLookup_eq_fast];kernel_rfl
theorem zb0{Q:Bool->Shared->Prop}(c:s.TypeIs (.ref r) "list_reverseiterator")(h:Q false s):wpAny (model prog w) A (Builtin.List.listLengthHint (.ref r)) Q E s:=by
 unfold Builtin.List.listLengthHint;refine wy (wpAny_specialOf c z6d ?_)
 wp_delta
 refine w1w (λa=>absurd a (by decide)) (λ_=> ?_);refine wy (wpAny_specialOf c z52 ?_);generalize hid:("list_reverseiterator.__length_hint__":String)=id0
 wp_delta
 rw [show splitId id0=some ("list_reverseiterator","__length_hint__")from by subst hid;decide +kernel];subst hid;refine wy (wpAny_isInstance (T:="list_reverseiterator") (b:=true) c (by rw [isSubtype_type];kernel_rfl) ?_);refine w1w (λa=>absurd a (by decide)) (λ_=> ?_);refine w1w (λ_=> ?_) (λa=>absurd (by decide +kernel) a);refine w1w (λa=>absurd a (by decide +kernel)) (λ_=> ?_);exact wV h
theorem z7Q{R:Result->Shared->Prop}(J:A.handled=none)(d:s.heap.IsRevIter r l ((items.size:Int) - 1))(hl:s.heap.IsList l items)(H:l≠r)(S:Addr)(q:S≠r)(B:S≠l)(res:Value)(t:Nat)(n:s.heap.get? S=some {cls:= .type "list",data:= .seq #[] t})
  (z:∀h' tk c c',(∀b o,b≠S->b≠r->s.heap.get? b=some o->h'.get? b=some o)->h'.get? S=some {cls:= .type "list",dict:=none,data:= .seq c c',slots:= #[]}->ItemsOf (λi v=>items[items.size - 1 - i]? =some v) c items.size->R (.ok (.ret res)) {s with heap:=h',toks:=tk}) (hn:items.size<=sizeLine):
  wpAny (model prog w) A.in1 (Builtin.List.listExtendWith (.ref S) (.ref r) res)
   (λfin s'=>match fin with | .done f=>R (.ok f) s' | .again c'=>c'.quiet=true/\codeAny (model prog w) A c' R s') (λe s'=>R (.error e) s') s:=by
 have u:S∉ [r,l]:=by simp only [wG,qi,QG,not_or];exact⟨q,B⟩
 have W:=Walks.listRev (prog:=prog) (w:=w) (A:=A.in1) J r l H items;unfold Builtin.List.listExtendWith;refine wy (wpAny_typeOf (T:="list_reverseiterator") d.typeIs ?_);have h1:Builtin.List.listSameRef (.ref S) (.ref r)=false:=by simp [Builtin.List.listSameRef,q]
 have I:(Value.type "list_reverseiterator" == Value.type "list")=false:=by decide
 have C:(Value.type "list_reverseiterator" == Value.type "tuple")=false:=by decide
 simp only [h1,I,C,Bool.or_false,w03,w1d];have E:(items.size:Int) - 1 - ((0:Nat):Int)=(items.size:Int) - 1:=by lia
 have st:0<=items.size/\s.heap.IsRevIter r l ((items.size:Int) - 1 - ((0:Nat):Int))/\s.heap.IsList l items:=⟨qQ _,by rw [E];exact d,hl⟩;have key:∀(h:Heap) (p tk:Nat),(0<=items.size/\h.IsRevIter r l ((items.size:Int) - 1 - ((0:Nat):Int))/\h.IsList l items)->(∀b o,b≠S->s.heap.get? b=some o->h.get? b=some o)->
   h.get? S=some {cls:= .type "list",data:= .seq #[] p}->codeAny (model prog w) A (.builtin "list.extend.loop" ⟨[.ref S,.ref r,res],[]⟩) R {s with heap:=h,toks:=tk}:=by
  intro h p tk M D K;refine codeAny_extend_loopS W.toS hn S u res items.size 0 _ #[] p rfl (qQ _) M K (ItemsOf.nil _) λs' c c' hm L G=> ?_
  rw [Moved.eq_with hm];refine z s'.heap s'.toks c c' (λb o a j e=>hm.heap b o (λc7=> ?_) (D b o a e)) L G;rcases wG.mp c7 with O | c7
  ·exact a O
  ·exact j (wx.mp c7)
 refine wy (wpAny_pyIter_revIter d ?_);refine wy (QE (zb0 d.typeIs ?_));refine w1w (λ_=> ?_) (λ_=>wV ⟨plainId_quiet PySem.F.plain_extend_loop _,key _ t _ st (λb o _ e=>e) n⟩);refine wy (wpAny_rule ?_);refine wy ?_
 show wpAny _ _ (updateSeq S (·.push .none) >>= λ_=>updateSeq S (·.pop)) _ _ _
 refine wy (wpAny_updateSeq n rfl ?_);have x:=w13 (Obj.mapSeq (·.push Value.none)) n rfl;refine wpAny_updateSeq (hz:=by seq_fits) x rfl ?_;have N:=w13 (Obj.mapSeq (·.pop)) x rfl;refine wV ⟨plainId_quiet PySem.F.plain_extend_loop _,key _ _ _ ?_ (λb o a e=> ?_) N⟩
 ·refine W.frame 0 _ _ st λb a o e=> ?_
  have y:b≠S:=λh=>u (h ▸ a)
  exact(Q5 _ _ (w1r y)).trans ((Q5 _ _ (w1r y)).trans e)
 ·exact(Q5 _ _ (w1r a)).trans ((Q5 _ _ (w1r a)).trans e)
theorem zbR{Q:Value->Shared->Prop}(z:A.handled=none)(p:s.heap.IsRevIter r l ((items.size:Int) - 1))(hl:s.heap.IsList l items)(y:l≠r)(hn:items.size<=sizeLine)
  (q:∀h' tk a c',(∀b o,b≠r->s.heap.get? b=some o->h'.get? b=some o)->h'.get? s.heap.objs.size=some {cls:= .type "list",dict:=none,data:= .seq a c',slots:= #[]}->ItemsOf (λi v=>items[items.size - 1 - i]? =some v) a items.size->Q (.ref s.heap.objs.size) {s with heap:=h',toks:=tk}):
  wpAny (model prog w) A (call (.type "list") [.ref r]) Q E s:=by
 refine callType_codes (Q₁:=λobj n=>obj= .ref s.heap.objs.size/\n={s with heap:=s.heap.push {cls:= .type "list",data:= .seq #[]}}) PySem.F.called_list (PySem.F.typeCall_list_1 _) PySem.F.entry_list_init
  (code_list_new _ ⟨rfl,rfl⟩) λobj n t=> ?_
 obtain⟨rfl,rfl⟩:=t;have c:(s.heap.push {cls:= .type "list",data:= .seq #[]}).get? s.heap.objs.size=some {cls:= .type "list",data:= .seq #[]}:=q5 _ rfl;have h:r < s.heap.objs.size:=let ⟨o,ho,_⟩:=p;wI ho
 have j:l < s.heap.objs.size:=let ⟨o,ho,_⟩:=hl;wI ho
 refine⟨⟨_,c,rfl⟩,PySem.F.args_list_init_2 _ _,?_⟩
 show wpAny _ _ (do let D<-Builtin.List.listItems (.ref s.heap.objs.size);Builtin.List.listUpdate (.ref s.heap.objs.size) (λ_=> #[]);letGo D.toList.reverse;Builtin.List.listExtendWith (.ref s.heap.objs.size) (.ref r) .none) _ _ _
 refine wy ?_;unfold Builtin.List.listItems;refine wy (wpAny_seqItems c rfl (wV ?_))
 show wpAny _ _ (updateSeq s.heap.objs.size (λ_=> #[]) >>= λ_=>letGo (#[]:Array Value).toList.reverse >>= λ_=>Builtin.List.listExtendWith (.ref s.heap.objs.size) (.ref r) .none) _ _ _
 refine wy (wpAny_updateSeq c rfl ?_);have G:=w13 (Obj.mapSeq (λ_=>(#[]:Array Value))) c rfl;have f:∀b o,b≠s.heap.objs.size->s.heap.get? b=some o->((s.heap.push {cls:= .type "list",data:= .seq #[]}).update s.heap.objs.size (Obj.mapSeq (λ_=>(#[]:Array Value)))).get? b=some o:=
  λb o C e=>(Q5 _ _ (w1r C)).trans (wo _ e)
 refine wy (wpAny_letGo ?_);refine z7Q (A:=A.in1) z (p.at λo e=>f r o (wW h) e) (hl.at λo e=>f l o (wW j) e) y _ (QC h) (QC j) .none _ G (λh' tk a c' u B x=> ?_) hn;exact⟨rfl,q h' tk a c' (λb o d e=>u b o (wW (wI e)) d (f b o (wW (wI e)) e)) B x⟩
end
section
variable{X:Cx}{e:Expr}{te:TE}{p p' pos pos':Pos}
def zbt(K:W.Frag)(te:TE):TE:=λσ H Q=>te σ H λx H1=>∃l xs,x= .ref l/\SqL K H1 l xs/\∀r,H1 r=none->Q (.ref r) (upd H1 r (.lst xs.reverse))
theorem z8b(J:X.calm=true)(F:Gl X "list")(z:X.mg "list"=none)(E:Gl X "reversed")(A:X.mg "reversed"=none)(he:PE X e te)
  (hs:starEach [.Call (.Name "reversed" p') [e] [] pos'] X.env= [(false,eval (.Call (.Name "reversed" p') [e] [] pos') X.env)]:=by rfl) (c:starEach [e] X.env= [(false,eval e X.env)]:=by rfl):
  PE X (.Call (.Name "list" p) [.Call (.Name "reversed" p') [e] [] pos'] [] pos) (zbt X.K te):=by
 intro pins s σ H Q I h;refine Qk (z0Z I F z qJ ?_ (by decide) (by decide));refine Q9 (by
  rw [hs];refine Qj ?_;refine Qk (z0Z I E A PyProof.Rows.boot_reversed ?_ (by decide) (by decide));refine Q9 (by
   rw [c];refine Qj (thn (he pins s σ H _ I h) ?_);rintro u s1 ⟨x,H1,a,r1,l,xs,ex,hq,q⟩;refine w0e ?_;subst ex;cases r1;obtain⟨a6,f,pl,hz⟩:=a.list hq;have hlen:=f.length;refine call_reversed_list pl.isList ?_;refine w0e ?_;have D:l≠s1.heap.objs.size:=by
    obtain⟨o,r,_⟩:=pl.isList;exact wW (wI r)
   have n:(s1.heap.push (revObj l ((a6.toArray.size:Int) - 1))).IsList l a6.toArray:=pl.isList.at λo e=>wo _ e
   refine zbR (s:={s1 with heap:=s1.heap.push (revObj l ((a6.toArray.size:Int) - 1))}) (a.ok.hd J) ⟨_,q5 _ rfl,rfl,rfl⟩ n D (by rw [wz];lia) λh' tk acc c' w t B=> ?_
   have hsz:(s1.heap.push (revObj l ((a6.toArray.size:Int) - 1))).objs.size=s1.heap.objs.size + 1:=Qc ..;have kp:∀b o,s1.heap.get? b=some o->h'.get? b=some o:=λb o e=>w b o (wW (wI e)) (wo _ e)
   have y:acc.toList=a6.reverse:=by
    obtain⟨d,C⟩:=B;refine List.ext_getElem? λj=> ?_
    by_cases hj:j < a6.length
    ·have i:j < acc.size:=by rw [d,wz];exact hj
     have:=C j acc[j] (Array.getElem?_eq_getElem i);rw [Array.getElem?_toList,Array.getElem?_eq_getElem i,List.getElem?_reverse hj,<-this];simp
    ·rw [w14 (by rw [w0O,d,wz];lia),w14 (by rw [w0k];lia)]
   have G:zL xs.reverse acc.toList:=by rw [y];exact z7F f
   refine⟨.ref _,upd H1 _ (.lst xs.reverse),a.laid (t':=tk) kp (by rw [hsz];exact Nat.le_succ _) ⟨by rw [w0k];exact hz,acc.toList,c',G,?_⟩,rfl,q _ (a.hok.fresh (by rw [hsz];exact Nat.le_succ _))⟩;rw [t,Array.toArray_toList]) (by rw [c];rfl) (by rw [show starEach ([]:List Expr) X.env= []from rfl];rfl)) (by rw [hs];rfl) (by rw [show starEach ([]:List Expr) X.env= []from rfl];rfl)
end
end L2

namespace L2
open PySem PySem.Spec PyProof.Rows
variable{t':Nat}{ch:List Addr}
section
variable{X:Cx}{pins:List (Addr×Obj)}{σ:St}{H:Hp}{s:Shared}{h':Heap}
theorem Inv.turnedL(I:Inv X pins σ H s)(k:∀b o,b∉ch->s.heap.get? b=some o->h'.get? b=some o)(a:∀b∈ch,z3P X pins H b):Inv X pins σ H {s with heap:=h',toks:=t'}:=by
 have d:∀b u,H b=some u->b∉ch:=λb u e z=>by rw [(a b z).1]at e;cases e
 refine I.step (g':=s.gens) (d':=s.drawn) (ch:=ch) (λb i=> ?_) (λb o _ _ hc e _=>k b o hc e) (λb o _ _ hc e _=>⟨o.slots,k b o hc e⟩) (λ_ _ _ _ n=>n)
  (λb o hc e=>⟨o,k b o hc e⟩) (λ_ _ e=>e) (λ_ _ _ e=>e) (λb ps e=>⟨#[],by rw [e];simp⟩) (λm hm=> ?_) (λb u e=> ?_) I.bare
 ·obtain⟨_,f1,_,f,l,j⟩:=a b i;exact⟨f,f1,l,j⟩
 ·obtain⟨o,es,ep,h,r⟩:=hm;exact⟨o,es,ep,k _ o (λz=>(a _ z).2.1 rfl) h,r⟩
 ·refine(I.hok b u e).stay (λc v hc q=>k c v ?_ q) (λ_ q=>q) λ_ _ q=>q
  rcases hc with z | z
  ·rw [z];exact d b u e
  ·exact d c _ z
theorem Inv.turnedLaid{a:Addr}{o:HO}(I:Inv X pins σ H s)(k:∀b o,b∉ch->s.heap.get? b=some o->h'.get? b=some o)(f:∀b∈ch,z3P X pins H b)(hp:s.heap.objs.size<=a)
  (new:jt X.prog X.w (upd H a o) h' a o):Inv X pins σ (upd H a o) {s with heap:=h',toks:=t'}:=by
 have h:∀b u,H b=some u->b∉ch:=λb u e z=>by rw [(f b z).1]at e;cases e
 have hn:H a=none:=I.hok.fresh hp;refine I.step (g':=s.gens) (d':=s.drawn) (ch:=ch) (λb d=> ?_) (λb o _ _ hc e _=>k b o hc e) (λb o _ _ hc e _=>⟨o.slots,k b o hc e⟩) (λb u _ q n=>by rw [zl (wW (wJ (wI q) hp))];exact n)
  (λb o hc e=>⟨o,k b o hc e⟩) (λb xs e=>by rw [zl (zq e hn)];exact e) (λb _ _ e=>by rw [zl (zq e hn)];exact e) (λb ps e=>⟨#[],by rw [zl (zq e hn),e];simp⟩) (λm hm=> ?_) (λb u e=> ?_) I.bare
 ·obtain⟨_,f1,_,i,p,l⟩:=f b d;exact⟨i,f1,p,l⟩
 ·obtain⟨o,es,ep,j,r⟩:=hm;exact⟨o,es,ep,k _ o (λz=>(f _ z).2.1 rfl) j,r⟩
 ·by_cases d:b=a
  ·subst d;rw [zj]at e;cases e;exact new
  ·rw [zl d]at e;refine(I.hok b u e).stay (λc v hc q=>k c v ?_ q) (λc q=> ?_) λc xs q=> ?_
   ·rcases hc with z | z
    ·rw [z];exact h b u e
    ·exact h c _ z
   ·rw [zl (zq q hn)];exact q
   ·rw [zl (zq q hn)];exact q
end
end L2

namespace L2
open PySem
def zfs(σ:St):Prop:=∃a b,σ= [a,b]
theorem zei{X:Cx}{scope:Scope}{x y:Str}{fr:List Str}{ix:List Nat}{px py tp:Pos}{k:Nat}(hc:X.calm=true)(S:CompScG X scope [x,y] fr ix)(b:scope.names.lookup x=some .local)(c:scope.names.lookup y=some .local)(C:Addr)(cells:List (Str×Addr))(s₀:Shared)(H₀:Hp)(ex:List Addr)(pins:List (Addr×Obj)):
  PG (j6 X scope ([x,y] ++ fr) C cells s₀ H₀ ex pins) (.Tuple [.Name x px,.Name y py] k tp) (ze8 X.K 2 (z7G (z1F 0) (z7G (z1F 1) zeG))):=by
 have a:(j6 X scope ([x,y] ++ fr) C cells s₀ H₀ ex pins).env.scope.names.lookup x=some .local:=yn (env:=X.env) b;have ly:(j6 X scope ([x,y] ++ fr) C cells s₀ H₀ ex pins).env.scope.names.lookup y=some .local:=yn (env:=X.env) c;exact zbc (X:=j6 X scope ([x,y] ++ fr) C cells s₀ H₀ ex pins) hc (z2S (z0s (i:=0) S.nd rfl (.inl a) (.inr a)) (z2S (z0s (i:=1) S.nd rfl (.inl ly) (.inr ly)) z8Z))
end L2

namespace L2
open PySem PySem.Spec PyProof.Rows
structure ExcCls(K:W.Frag)(D:Addr):Prop where
 ga:PySem.W.findIn K (.ref D) "__getattribute__"=some (some (.builtin "BaseException.__getattribute__"))
 gt:PySem.W.findIn K (.ref D) "__getattr__"=some none
 be:PySem.W.subIn K (.ref D) (.type "BaseException")=some true
 hc:(PySem.W.clsIn K D).isSome=true
 ha:PySem.W.findIn K (.ref D) "__class__"=some (some (.builtin "object.__class__"))
 hn:PySem.W.specialIn K (.builtin "object.__class__") "__get__"=some (some (.builtin "getset_descriptor.__get__"))
 ht:PySem.W.takesIn K (.builtin "object.__class__")=some true
 hm:PySem.W.mroIn K D (.type "object")=some true
section
variable{X:Cx}
theorem zdV{pins:List (Addr×Obj)}{s:Shared}{σ:St}{H:Hp}{i:Nat}{x:Str}{v:V}{pos:Pos}{Q:Value->Shared->Prop}(I:Inv X pins σ H s)(b:X.N[i]? =some x)(d:Vis X.env.scope x)(e:σ[i]? =some (some v))(h:∀u,RelV v u->Q u s)
  (hd:(x == ("__debug__":Str))=false:=by decide) (a:(x == ("__classdict__":Str))=false:=by decide):wpAny (model X.prog X.w) X.A (eval (.Name x pos) X.env) Q X.xe s:=by
 obtain⟨m,hn,hl⟩:=I.loc;obtain⟨u,r,l⟩:=hl i x v b e d;have fin:=h u r;rcases l with⟨hk,hm⟩ | ⟨hk,c,hc,aA⟩
 ·exact wpAny_Name (wpAny_loadName_local I.ok.kind hk hn hm fin) hd
 ·rcases hk with hk | hk
  ·exact wpAny_Name (wpAny_loadName_cell I.ok.kind hk hc aA fin) hd
  ·exact wpAny_Name (wpAny_loadName_free I.ok.kind hk hc aA fin a) hd
end
end L2

namespace L2
open PySem PySem.Spec PyProof.Rows
abbrev SpS:=List Env->Shared->Sp
structure FnOkS(P:Program)(w:World)(K:W.Frag)(mg:Str->Option Value)(base:Heap)(CX:CXT)(k:Nat)(f:Addr)(fd:FuncData)(ps:List Str)(sp:SpS):Prop where
 len:∀outer s vs H Q E,sp outer s vs H Q E->vs.length=ps.length
 run:∀(A:Around) (outer:List Env) (s:Shared) (H:Hp) (args:Args) (us:List Value) (vs:List V) (Q:VK) (E:XK),Room k A->Env0 P w K mg base A outer s H->BindsTo s fd args (ps.zip us)->zL vs us->sp outer s vs H Q E->
  codeAny (model P w) A (.call (.ref f) args) (CR CX outer P w H s Q E) s
variable{P:Program}{w:World}{mg:Str->Option Value}{base:Heap}{CX:CXT}{f:Addr}{sp:SpS}
section
variable{K:W.Frag}
theorem Fun.okS{x qual:Str}{st:Stmt}{fd:FuncData}{N ps:List Str}{k:Nat}(F:Fun K x qual st f fd)(S:FnScope N ps (zi st))(len:∀outer s vs H Q E,sp outer s vs H Q E->vs.length=ps.length)
  (p:∀(ac:Value) (A:Around) (outer:List Env) (s:Shared) (H:Hp) (vs:List V) (Q:VK) (E:XK),Room k (A.deeper (envOfC qual (zi st) s.heap.objs.size f ac))->sp outer s vs H Q E->
   ∃t,PSs (z36 CX P w K mg base N qual (zi st) f ac A outer s H E) (jO st) t/\t {nx:=λ_ H'=>Q .non H',rt:=Q} (start N vs) H):FnOkS P w K mg base CX (k + 1) f fd ps sp:=by
 obtain⟨oc,od,kV,aS,pm,an,ac,ct,cC,rfl,B,j⟩:=F.ex;refine⟨len,λA outer s H args us vs Q E hr a l r d=> ?_⟩;have hl:=len _ _ _ _ _ _ d;have h:K.In s.heap:=a.mod.kin.keeps λb o e=>(a.bs b o e).1
 have D:s.heap.NoLimit:=a.mod.nolimit.keeps λb o e=>(a.bs b o e).1
 have z:∀y∈ps.zip us,(zi st).names.lookup y.1=some .local\/((zi st).names.lookup y.1=some .cell/\((cellsFrom (s.heap.objs.size + 1) (zi st).names []).lookup y.1).isSome=true):=λ⟨n,v⟩ i=>by
  rcases S.par n (List.of_mem_zip i).1 with q | q
  ·exact .inl q
  ·exact .inr ⟨q,PySem.W.cellsFrom_some _ _ _ (.inl q)⟩
 refine codeAny_call_function hr.depth (h _ _ B) rfl S.co S.gen rfl (PySem.W.codeRec_of h j) (l _ _ _ _ ?_);refine wpAny_newFunctionEnv_cells S.kind z λenv he s1 x=> ?_
 subst he;refine⟨D.keeps x.toInCall.keep,codeAny_func ?_⟩;obtain⟨t,ht,hq⟩:=p ac A outer s H vs Q E (hr.deeper _) d;have I:Inv (z36 CX P w K mg base N qual (zi st) f ac A outer s H E) [] (start N vs) H s1:=z5r S hr.hd a hl r x;refine qY (ht [] s1 (start N vs) H _ I hq) (λC s' hs=> ?_) λe s' hs=>hs
 have fin:∀{σ':St} {H':Hp} {v:V} {u:Value},Inv (z36 CX P w K mg base N qual (zi st) f ac A outer s H E) [] σ' H' s'->RelV v u->Q v H'->CE outer P w H s Q u s':=
  λ{σ' H' v u} J c q=>⟨v,H',J.os,J.bare,J.base,J.hok,c,q⟩
 cases C with
 | ret u=>obtain⟨v,σ',H',J,c,q⟩:=hs;exact fin J c q
 | next=>obtain⟨σ',H',J,q⟩:=hs;exact fin (v:=V.non) (u:=Value.none) J rfl q
 | brk=>obtain⟨_,_,_,q⟩:=hs;exact False.elim q
 | cont=>obtain⟨_,_,_,q⟩:=hs;exact False.elim q
end
structure KnS(P:Program)(w:World)(K:W.Frag)(mg:Str->Option Value)(base:Heap)(CX:CXT)(k:Nat)(x:Str)(ps:List Str)(sp:SpS):Prop where
 ex:∃(f:Addr) (fd:FuncData),FnOkS P w K mg base CX k f fd ps sp/\mg x=some (.ref f)/\PySem.W.keepIn K (.ref f)=true/\Binds K fd ps []
structure WorkOk(P:Program)(w:World)(K:W.Frag)(mg:Str->Option Value)(base:Heap)(CX:CXT)(k:Nat)(fs:List Addr)(H:Hp)(s:Shared)(lf:Addr)(sp:Sp):Prop where
 here:∀(s':Shared) (H':Hp),Un fs [] H H' s.heap s'.heap->PySem.W.FnAt lf s'.heap
 run:∀(A:Around) (outer:List Env) (s':Shared) (H':Hp) (us:List Value) (vs:List V) (Q:VK) (E:XK),Room k A->Env0 P w K mg base A outer s' H'->Un fs [] H H' s.heap s'.heap->zL vs us->sp vs H' Q E->
  codeAny (model P w) A (.call (.ref lf) ⟨us,[]⟩) (CR CX outer P w H' s' Q E) s'
noncomputable abbrev cxW(CX:CXT)(P:Program)(w:World)(K:W.Frag)(mg:Str->Option Value)(base:Heap)(A:Around)(outer:List Env)(qual:Str)(scope:Scope)(N:List Str)(f:Addr)(cd:Value)(cells:List (Str×Addr))(s:Shared)(H:Hp)(E:XK):Cx:=
 {prog:=P,w:=w,K:=K,mg:=mg,base:=base,A:=A.deeper (PySem.W.envX qual scope s.heap.objs.size f cd cells),N:=N,s₀:=s,H₀:=H,env:=PySem.W.envX qual scope s.heap.objs.size f cd cells,outer:=outer,
  stack:=PySem.W.envX qual scope s.heap.objs.size f cd cells :: outer,ex:= [],fn:=λ_=>false,calm:=true,pn:= [],
  xe:=λe s'=>wpAny (model P w) (A.deeper (PySem.W.envX qual scope s.heap.objs.size f cd cells)) (leaving (PySem.W.envX qual scope s.heap.objs.size f cd cells) e) (λ_ a=>CX outer H s E e a) (λb a=>CX outer H s E b a) s'}
structure LamSc(scope:Scope)(a b y:Str):Prop where
 kind:scope.kind= .function
 co:scope.isCoroutine=false
 gen:scope.isGenerator=false
 la:scope.names.lookup a=some .local
 lb:scope.names.lookup b=some .local
 ly:scope.names.lookup y=some .free
 nd: [a,b,y].Nodup
 nc:∀z∈scope.names,z.2≠ .cell
 only:∀z∈scope.names,z.2= .free->z.1=y
variable{scope:Scope}{s:Shared}{H:Hp}{E:XK}
theorem zcn{K:W.Frag}{A:Around}{outer:List Env}{qual:Str}{a b y:Str}{j:Addr}{cd:Value}{h1:Heap}{tk:Nat}{v1 v2 tv:V}{t r C:Value}
  (S:LamSc scope a b y) (G:A.handled=none) (l:Env0 P w K mg base A outer s H) (r1:RelV v1 t) (r2:RelV v2 r) (r3:RelV tv C) (hc:s.heap.IsCell j (some C)) (F:H j=none)
  (I:h1.Ns s.heap.objs.size (λz=> [(a,t),(b,r)].reverse.lookup z)) (u:∀b o,s.heap.get? b=some o->h1.get? b=some o):
  Inv (cxW CX P w K mg base A outer qual scope [a,b,y] f cd [(y,j)] s H E) [] [some v1,some v2,some tv] H {s with heap:=h1,toks:=tk}:=by
 have D:a≠b:=by have:=S.nd;simp at this;exact this.1.1
 have look:∀z c,([(y,j)]:List (Str×Addr)).lookup z=some c->z=y/\c=j:=λz c e=>by
  rw [qF]at e;split at e
  ·rename_i q;exact⟨eq_of_beq q,(Option.some.inj e).symm⟩
  ·cases e
 have B:∀d:Addr,d∉(cxW CX P w K mg base A outer qual scope [a,b,y] f cd [(y,j)] s H E).ex:=λd z=>absurd (show d∈([]:List Addr)from z) (by simp)
 refine⟨⟨l.mod,S.kind,rfl,rfl,ww _,λx z c h1 h2=>(look x c h1).1.trans (look z c h2).1.symm,λx hx=> ?_,λx c z _=>absurd z wO,λ_=>G,Around.frames_deeper l.frames,.inr ⟨rfl,rfl⟩,λb z=>absurd z (B b),l.bs,l.bsz,λb _ _=>B b,λb z=>absurd z (B b),l.funs,l.frf⟩,
  rfl,l.bare,Un.kept u,⟨_,I,λi x v' h1 h2 J=> ?_⟩,λx c h=> ?_,l.hok.fresh (ww _),λx c h=> ?_,λp hp=>absurd (show p∈([]:List (Addr×Obj))from hp) (by simp),l.hok.kept u,rfl⟩
 ·have hx:scope.names.lookup x=some .cell\/scope.names.lookup x=some .free:=hx;rcases hx with hx | hx
  ·exact absurd rfl (S.nc _ (qT hx))
  ·have:x=y:=S.only _ (qT hx) rfl;subst this;exact⟨j,by show([(x,j)]:List (Str×Addr)).lookup x=some j;simp⟩
 ·match i,h1,h2 with
  | 0,h1,h2=>
   cases (show a=x from Option.some.inj h1);cases (show some v1=some v' from Option.some.inj h2);refine⟨t,r1,.inl ⟨S.la,?_⟩⟩
   show([(b,r),(a,t)]:List (Str×Value)).lookup a=some t
   rw [qF,show(a == b)=false from by simpa using D];simp
  | 1,h1,h2=>
   cases (show b=x from Option.some.inj h1);cases (show some v2=some v' from Option.some.inj h2);refine⟨r,r2,.inl ⟨S.lb,?_⟩⟩
   show([(b,r),(a,t)]:List (Str×Value)).lookup b=some r
   simp
  | 2,h1,h2=>
   cases (show y=x from Option.some.inj h1);cases (show some tv=some v' from Option.some.inj h2);exact⟨C,r3,.inr ⟨.inr S.ly,j,by show([(y,j)]:List (Str×Addr)).lookup y=some j;simp,hc.keeps u⟩⟩
  | n + 3,h1,_=>cases h1
 ·obtain⟨_,rfl⟩:=look x c h;exact⟨_,hc.keeps u⟩
 ·obtain⟨_,rfl⟩:=look x c h;exact F
section
variable{X:Cx}{pins:List (Addr×Obj)}{σ:St}{k:Nat}{T c:Addr}{lp:Pos}{params:Arguments}{body:Expr}{a b y:Str}{j:Nat}{tv:V}{tb:XK->TE}
theorem zaW{pm ct:Value}(I:Inv X (pins ++ [(f,z3f X params body scope pm c ct)]) σ H s)(cN:z4s H T lp (X.env.qual ++ "<lambda>") c)(S:LamSc scope a b y)(B:X.env.kindOf y=some .cell\/X.env.kindOf y=some .free)(hN:X.N[j]? =some y)(hσ:σ[j]? =some (some tv))
  (Y:yK X.env scope.names []= [(y,(X.env.cells.lookup y).getD 0)])
  (aI:∀(pm ct n l:Value) (c:Addr),bindArgs (PySem.W.kla_fn "<lambda>" (X.env.qual ++ "<lambda>") params body scope (yK X.env scope.names []) pm (.ref c) ct) ⟨[n,l],[]⟩=pure [(a,n),(b,l)])
  (P:∀A outer f cd d s H E,Room k (A.deeper (PySem.W.envX (X.env.qual ++ "<lambda>") scope s.heap.objs.size f cd [(y,d)]))->PE (cxW CX X.prog X.w X.K X.mg X.base A outer (X.env.qual ++ "<lambda>") scope [a,b,y] f cd [(y,d)] s H E) body (tb E)):
  WorkOk X.prog X.w X.K X.mg X.base CX (k + 1) (frs X.stack) H s f (λvs H Q E=>∃v1 v2,vs= [v1,v2]/\tb E [some v1,some v2,some tv] H Q):=by
 obtain⟨G,D,_⟩:=I.pin _ (wA _ (wA _ (wx.mpr rfl)));obtain⟨d,u⟩:=I.ok.has y B;obtain⟨m,hn,hl⟩:=I.loc;obtain⟨M,rt,U⟩:=hl j y tv hN hσ (by
  rcases B with q | q
  ·exact .inr (.inl q)
  ·exact .inr (.inr q))
 have L:s.heap.IsCell d (some M):=by
  rcases U with⟨q,_⟩ | ⟨_,c',e',z⟩
  ·rcases B with z | z
   ·rw [q]at z;cases z
   ·rw [q]at z;cases z
  ·rw [u]at e';cases e';exact z
 have O:H d=none:=I.freeC y d u;have oz:yK X.env scope.names []= [(y,d)]:=by rw [Y,u];rfl
 refine⟨λs' H' un=> ?_,λA outer s' H' us vs Q E hr p un r x=> ?_⟩
 ·obtain⟨sl,e⟩:=un.any G D (by simp);exact⟨_,_,_,_,e⟩
 ·obtain⟨v1,v2,rfl,x⟩:=x;obtain⟨n,l,rfl,r1,r2⟩:=vals2 r;obtain⟨sl,e⟩:=un.any G D (by simp);have R:s'.heap.IsCell d (some M):=by
   obtain⟨o,C,hd⟩:=L;obtain⟨sl,e⟩:=un.any C O (by simp);exact⟨_,e,hd⟩
  have oA:H' d=none:=by
   obtain⟨o,C,_⟩:=L;exact un.free d o C O (by simp)
  have fZ:s'.heap.CodeRec (.ref c) (X.env.qual ++ "<lambda>"):=by
   obtain⟨_,oc,vs,t,h2,h3,h4⟩:=cN;obtain⟨e,_⟩:=p.hok c _ (un.frzs _ _ _ h2);exact⟨c,oc,vs,t,rfl,e,h3,h4⟩
  have fQ:s'.heap.NoLimit:=p.mod.nolimit.keeps λb o e=>(p.bs b o e).1
  refine PySem.W.kla_callFunE hr.depth e rfl S.co S.gen rfl fZ ?_;have F:=aI pm ct n l c;dsimp only at F ⊢;rw [F];refine wV (wpAny_newFunctionEnv S.nc (λz hz=> ?_) (λh1 Z i=>⟨?_,?_⟩) S.kind)
  ·simp only [wG,qi,QG]at hz;rcases hz with rfl | rfl
   ·exact S.la
   ·exact S.lb
  ·exact fQ.fresh _ i
  ·have hk:∀b o,s'.heap.get? b=some o->h1.get? b=some o:=λb o e=>i.extBut b o (wW (wI e)) (wo _ e)
   have I1:=zcn (CX:=CX) (qual:=X.env.qual ++ "<lambda>") (f:=f) (cd:= .ref c) (E:=E) (tk:=s'.toks + 2) S hr.hd p r1 r2 rt R oA Z hk
   show codeAny _ _ (.expr body (PySem.W.envX (X.env.qual ++ "<lambda>") scope s'.heap.objs.size f (.ref c) (yK X.env scope.names []))) _ _
   rw [oz];refine PySem.W.kla_codeExpr (qY (P A outer f (.ref c) d s' H' E (hr.deeper _) [] _ _ H' Q I1 x) (λw s2 hq=> ?_) λe s2 z=>z);obtain⟨v,H2,J,ry,q⟩:=hq;exact⟨v,H2,J.os,J.bare,J.base,J.hok,ry,q⟩
def zb9(X:Cx)(CX:CXT)(k:Nat)(T:Addr)(lp:Pos)(q:Str)(j:Nat)(tb:XK->TE)(sp:SpS)(E:XK)(te:TE):TE:=λσ H Q=>te σ H λv H1=>jJ H1 T lp q/\∃tv,σ[j]? =some (some tv)/\
 ∀(lf c:Addr) (H2:Hp) (s2:Shared),Kp T H1 H2->z4s H2 T lp q c->WorkOk X.prog X.w X.K X.mg X.base CX (k + 1) (frs X.stack) H2 s2 lf (λvs H Q E=>∃v1 v2,vs= [v1,v2]/\tb E [some v1,some v2,some tv] H Q)->sp X.stack s2 [v,.ref lf] H2 Q E
theorem z2o{n:Nat}{F:Str}{ps:List Str}{p pos:Pos}{e:Expr}{te:TE}(C:KnS X.prog X.w X.K X.mg X.base CX n F ps sp)(hx:z1h CX X E)(hr:Room n X.A)(U:Gl X F)(he:PE X e te)(hc:X.env.code= .ref c)(hC:PySem.W.CodeHd X.base c T)(B:X.base.BuiltinsAt X.mg T)
  (S:LamSc scope a b y) (t:X.env.kindOf y=some .cell\/X.env.kindOf y=some .free) (hN:X.N[j]? =some y)
  (O:∀A outer f cd M s H E,Room k (A.deeper (PySem.W.envX (X.env.qual ++ "<lambda>") scope s.heap.objs.size f cd [(y,M)]))->PE (cxW CX X.prog X.w X.K X.mg X.base A outer (X.env.qual ++ "<lambda>") scope [a,b,y] f cd [(y,M)] s H E) body (tb E))
  (Y:yK X.env scope.names []= [(y,(X.env.cells.lookup y).getD 0)]:=by rfl)
  (aI:∀(pm ct G l:Value) (c:Addr),bindArgs (PySem.W.kla_fn "<lambda>" (X.env.qual ++ "<lambda>") params body scope (yK X.env scope.names []) pm (.ref c) ct) ⟨[G,l],[]⟩=pure [(a,G),(b,l)]:=by intro _ _ _ _ _;rfl)
  (dM:defaultsOf params X.env=([],[]):=by rfl) (P:(F == ("__debug__":Str))=false:=by decide)
  (D:starEach [e,.Lambda params body scope lp] X.env=(false,eval e X.env) :: starEach [.Lambda params body scope lp] X.env:=by rfl) (dO:starEach [.Lambda params body scope lp] X.env= [(false,eval (.Lambda params body scope lp) X.env)]:=by rfl) (aF:(backTo pos (starEach [.Lambda params body scope lp] X.env)).any (·.1)=false:=by rfl):
  PE X (.Call (.Name F p) [e,.Lambda params body scope lp] [] pos) (zb9 X CX k T lp (X.env.qual ++ "<lambda>") j tb sp E te):=by
 obtain⟨f0,fd,x,hm,hk,R⟩:=C.ex;intro pins s σ H Q I h;refine Qk (z2J I U hm ?_ P);refine w0X (h₀:=X.base) I.ok.mod.kin hk ?_ D aF;rw [D,dO]
 show wpAny _ _ (spliced [(false,eval e X.env),(false,eval (.Lambda params body scope lp) X.env)]) _ _ s
 refine Qj (thn (he pins s σ H _ I h) ?_);rintro u s1 ⟨v,H1,I1,r1,hL,tv,hσ,q⟩;refine Qj ?_;refine z70 I1 hc hC B hL dM (λz hz i=>by rw [S.only z hz i];exact t) λf c' ct pm H2 s2 kp2 L d=>w0e ⟨d.kIn,?_⟩
 have W:=zaW (CX:=CX) (k:=k) d L S t hN hσ Y aI O;have o:=q f c' H2 s2 kp2 L W;have hl:=x.len _ _ _ _ _ _ o;have rv:zL [v,.ref f] [u,.ref f]:= .cons r1 (.cons rfl .nil);have bD:([u,Value.ref f] ++ ([]:List Value)).length=ps.length:=hl;have bd:=R s2 [u,.ref f] d.kIn bD;rw [Ql]at bd;refine w1G (w0r (x.run X.A X.stack s2 H2 ⟨[u,.ref f],[]⟩ [u,.ref f] [v,.ref f] Q E hr d.env0 bd rv o) λr s' hq=> ?_);cases r with
 | error e=>exact hx _ σ H2 s2 e s' d hq
 | ok Z=>
  cases Z with
  | ret u=>
   obtain⟨v',H',J,eZ,q'⟩:=d.after hq;exact⟨v',H',J.pins_of λp hp=>J.pin p (wA _ (wZ _ hp)),eZ,q'⟩
  | next=>exact False.elim hq
  | brk=>exact False.elim hq
  | cont=>exact False.elim hq
end
end L2

namespace L2
open PySem PySem.Spec PyProof.Rows
noncomputable def once(ks:List Str):List Str:=ks.foldl (λacc k=>if k∈acc then acc else acc ++ [k]) []
theorem z21(ks:List Str)(k:Str):once (ks ++ [k])=if k∈once ks then once ks else once ks ++ [k]:=by
 unfold once;rw [w0M]
 rfl
theorem snoc_ind{α:Type}{P:List α->Prop}(h0:P [])(h1:∀l a,P l->P (l ++ [a]))(l:List α):P l:=by
 have:∀l:List α,P l.reverse:=λl=>by
  induction l with
  | nil=>exact h0
  | cons a r b=>rw [QQ];exact h1 _ _ b
 have:=this l.reverse
 rwa [List.reverse_reverse]at this
theorem z2C{k:Str}(ks:List Str):k∈once ks↔k∈ks:=by
 refine snoc_ind (P:=λks=>k∈once ks↔k∈ks) (by unfold once;simp) (λl a b=> ?_) ks;rw [z21];split
 ·rename_i h;rw [wB,b];refine⟨.inl,λz=>z.elim id λz=> ?_⟩;rw [wx.mp z]at b ⊢;exact b.mp h
 ·rw [wB,wB,b]
theorem z8W(ks:List Str):(once ks).length<=ks.length:=by
 refine snoc_ind (P:=λks=>(once ks).length<=ks.length) (by unfold once;simp) (λl a b=> ?_) ks;rw [z21];split <;> simp only [wg,wS] <;> lia
theorem z8i(ks:List Str):(once ks).length=ks.length↔ks.Nodup:=by
 refine snoc_ind (P:=λks=>(once ks).length=ks.length↔ks.Nodup) (by unfold once;simp) (λl a b=> ?_) ks;have f:=z8W l;rw [z21];split
 ·rename_i h;rw [z2C]at h;refine⟨λz=> ?_,λz=> ?_⟩
  ·rw [wg,wS]at z;lia
  ·exact absurd rfl ((QP.mp z).2.2 a h a (wx.mpr rfl))
 ·rename_i h;rw [z2C]at h;rw [wg,wg];refine⟨λz=> ?_,λz=> ?_⟩
  ·have:=b.mp (by simpa using z);exact QP.mpr ⟨this,by simp,λx c y d e=>h (by rw [wx.mp d]at e;rw [<-e];exact c)⟩
  ·rw [b.mpr (QP.mp z).1]
variable{ks:List Str}
section
variable{prog:Program}{w:World}{A:Around}
noncomputable abbrev tk(prog:Program)(w:World):=PySem.strKind prog w
theorem zaQ{R:Result->Shared->Prop}{I:Addr}{fp a:List Addr}{G:Array GenState->Array GenState->Prop}{n:Nat}{y:Nat->Value->Prop}{St:Nat->Shared->Prop}(W:WalksS prog w A.in1 I fp a G n y St){S:Addr}(j:S∉fp)(hn:ks.length=n)
  (L:∀i v,y i v->∃t,v= .str (ks.getD i "") t) (M:n + 1 < scanBound):∀(k i:Nat) (s:Shared),n - i=k->i<=n->St i s->s.heap.SetOf (tk prog w) S (λx=>decide (x∈ks.take i)) (once (ks.take i)).length->
   (∀s',Moved (S :: a) G s s'->s'.heap.SetOf (tk prog w) S (λx=>decide (x∈ks)) (once ks).length->R (.ok (.ret .none)) s')->codeAny (model prog w) A (.builtin "set.update.loop" ⟨[.ref S,.ref I],[]⟩) R s:=by
 have sub:∀b∈a,b∈S :: a:=λb z=> .tail _ z
 have B:S∉a:=λz=>j (W.sub _ z)
 have u:∀{s s':Shared} {g:Str->Bool} {m:Nat},Moved a G s s'->s.heap.SetOf (tk prog w) S g m->s'.heap.SetOf (tk prog w) S g m:=λhm ⟨o,es,ep,t,D,z⟩=>⟨o,es,ep,t,hm.heap S _ B D,z⟩
 intro k;induction k with
 | zero=>
  intro i s H hi st d fin;obtain rfl:i=n:=by lia
  rw [qS (by lia)]at d;refine codeAny_builtin PyProof.Rows.F.entry_set_update_loop (by
   rw [Around.under_plainId w0b _];exact wy (W.done s _ _ st λs' hm=>wV (fin s' (hm.mono sub) (u hm d))))
 | succ k C=>
  intro i s H hi st d fin;have p:i < ks.length:=by lia
  refine codeAny_builtin PyProof.Rows.F.entry_set_update_loop (by
   rw [Around.under_plainId w0b _];refine wy (W.item i s _ _ (by lia) st λv s' hp J hm=> ?_);obtain⟨t,rfl⟩:=L i v hp;have K:=u hm d;have room:(once (ks.take i)).length + 1 < scanBound:=by
    have h1:=z8W (ks.take i);rw [wK]at h1
    lia
   have l:ks.getD i ""=ks[i]:=by rw [wb,wa p];rfl
   have r:ks.take (i + 1)=ks.take i ++ [ks[i]]:=by rw [wQ,wa p];rfl
   refine wy (QE (QE (wy ((tk prog w).pyHash (k:=ks[i]) (v:= .str (ks.getD i "") t) ?_ ?_))))
   ·rw [l];exact strKind_is _ _ _ _
   refine wpAny_setAddHashed_of (knd:=tk prog w) (k:=ks[i]) ?_ rfl K room λh' c h=> ?_
   ·rw [l];exact strKind_is _ _ _ _
   have E:h'.SetOf (tk prog w) S (λx=>decide (x∈ks.take (i + 1))) (once (ks.take (i + 1))).length:=by
    refine PyProof.Rows.SetOf_congr h (λx=> ?_) ?_
    ·show(decide (x∈ks.take i) || decide (x=ks[i]))=_
     rw [r,<-Bool.decide_or];exact w1e.mpr (by rw [wB,wx])
    ·rw [r,z21];by_cases hm:ks[i]∈ks.take i
     ·rw [wY (by simpa using hm),wY ((z2C _).mpr hm)]
     ·rw [wM (by simpa using hm),wM (λz=>hm ((z2C _).mp z)),wg];rfl
   refine wV ⟨plainId_quiet w0b _,C (i + 1) _ (by lia) (by lia) (W.frame _ s' _ _ J (Nat.le_succ _) λb z o e=> ?_) E λs2 f=> ?_⟩
   ·rw [c.2 b λq=>j (q ▸ z)];exact e
   ·refine fin s2 (Moved.trans W.gtrans ((hm.mono sub).then_heap (Nat.le_succ _) λb o z e=> ?_) f);rw [c.2 b λq=>z (q ▸ .head _)];exact e)
noncomputable abbrev newSet(a:Bool):Obj:={cls:= .type "set",dict:=none,data:= .set #[] 0 (.fresh 0 0 a)}
set_option maxHeartbeats 3200000 in
theorem za6{E:Value->Shared->Prop}{s:Shared}{l:Addr}{items:List Value}{Q:Value->Shared->Prop}(N:A.handled=none)(hl:s.heap.IsList l items.toArray)(hi:zL (ks.map V.str) items)(f:ks.length + 1 < scanBound)
  (h:∀(h':Heap) (j:Nat),h'.SetOf (tk prog w) s.heap.objs.size (λx=>decide (x∈ks)) (once ks).length->(∀b o,b < s.heap.objs.size->s.heap.get? b=some o->h'.get? b=some o)->Q (.ref s.heap.objs.size) {s with heap:=h',toks:=j}):
  wpAny (model prog w) A (call (.type "set") [.ref l]) Q E s:=by
 have hlen:items.length=ks.length:=by rw [<-hi.length,w9]
 obtain⟨c,tl,Y⟩:=w15.mro;have a1:=w15.made;have a2:=w15.sub;have X:=w15.notType;have Z:=w15.canCreate;have a5:=F.typeCall_set_1 (.ref l);refine w1G (codeAny_of_tree (wV ⟨Code.quiet_builtin _ (by decide +kernel),codeAny_builtin F.entry_type_call ?_⟩));rw [Around.under_plain (weight_type_call_type "set" [.ref l] []) rfl]
 repeat (any_goals (first | assumption | wp_step))
 refine w0r (code_set_new_1 (.ref l) (E:=E) (Q₁:=λo s1=>∃a:Bool,o= .ref s.heap.objs.size/\s1={s with heap:=s.heap.push {cls:= .type "set",dict:=none,data:= .set #[] 0 (.fresh 0 0 a)}}) λa=>⟨a,rfl,rfl⟩) λr s1 hr=> ?_
 rcases r with e | (_ | _ | _ | o)
 ·exact hr
 ·exact hr
 ·exact hr
 ·exact hr
 ·obtain⟨a,rfl,rfl⟩:=hr;have q:(s.heap.push (newSet a)).get? s.heap.objs.size=some (newSet a):=q5 _ rfl;have L:Shared.TypeIs {s with heap:=s.heap.push (newSet a)} (.ref s.heap.objs.size) "set":=⟨_,q,rfl⟩;have b1:=w15.init.lookup;have b2:=w15.init.bind (.ref s.heap.objs.size)
  repeat (any_goals (first | assumption | wp_step))
  refine w0r (codeAny_call_builtin (R:=wants (λr s2=>r= .none/\∃h' j,s2={s with heap:=h',toks:=j}/\h'.SetOf (tk prog w) s.heap.objs.size (λx=>decide (x∈ks)) (once ks).length/\∀b o,b < s.heap.objs.size->s.heap.get? b=some o->h'.get? b=some o) E)
   w15.init.plain F.entry_set_init (check_set_init_1 L ?_)) λr2 s2 d=> ?_
  ·obtain⟨⟨oc,od,T,os⟩,H,D,y,B⟩:=hl;simp only at D B;subst D B;have J:(s.heap.push (newSet a)).get? l=some {cls:= .type "list",dict:=od,data:= .seq items.toArray y,slots:=os}:=wo _ H;have c2:=F.sub_list_set;have U:=F.sub_list_frozenset;have c4:(Value.type "list" == Value.type "dict")=false:=by decide
   have I:(s.heap.push (newSet a)).IsList l items.toArray:=⟨_,J,rfl,y,rfl⟩;unfold Builtin.«set.__init__» noKeywords Builtin.Frozenset.updateFrom;generalize hPI:pyIter=PI
   wp_walk
   subst hPI;have d1:l < s.heap.objs.size:=wI H;have d2:A.in1.in1.in1.handled=none:=by simp [N]
   have n:(s.heap.push (newSet a)).objs.size=s.heap.objs.size + 1:=Qc _ _;refine wpAny_pyIter_list I (wy (wpAny_runValue ?_));refine zaQ (ks:=ks) (S:=s.heap.objs.size) ((Walks.list d2 _ l (by rw [n];exact wW (Q0 d1)) items.toArray).toS) (λz=>(wG.mp z).elim (λe=>absurd (e.trans n) (wW (w0n _))) λz=>absurd (wx.mp z) (QC d1)) (by simp [hlen]) (λi v z=> ?_) (by simp [hlen];exact f) _ 0 _ rfl (qQ _) ⟨⟨_,q5 _ rfl,rfl,rfl⟩,I.push _⟩ ?_ ?_
   ·have z':items[i]? =some v:=by simpa using z
    have C:i < ks.length:=by rw [<-hlen];exact(we.mp z').1
    obtain⟨u,G,K⟩:=hi.get (show(ks.map V.str)[i]? =some (.str ks[i]) by rw [wF,wa C];rfl);rw [z']at G;cases G;obtain⟨t,rfl⟩:=K;exact⟨t,by rw [wb,wa C];rfl⟩
   ·have M:=wo (h:=s.heap.push (newSet a)) {cls:= .type "list_iterator",data:= .fields #[.ref l,.int 0 0]} q;exact PyProof.Rows.SetOf_congr ((PyProof.Rows.setObjOf_fresh (knd:=tk prog w) a).setOf M (by unfold scanBound;lia)) (λ_=>by simp) (by unfold once;rfl)
   ·intro s' hm p;obtain⟨h',g',d',t',P⟩:=s';obtain rfl:g'=s.gens:=hm.gens;obtain rfl:d'=s.drawn:=hm.drawn;obtain rfl:P=s.os:=hm.os;refine wV (wV ⟨rfl,h',t',rfl,p,λb o f e=> ?_⟩);refine hm.heap b o ?_ (wo _ (wo _ e));exact λz=>(wG.mp z).elim (wW f) λz=>absurd ((wx.mp z).trans n) (wW (Q0 f))
  ·rcases r2 with e | (_ | _ | _ | o)
   ·exact d
   ·exact d
   ·exact d
   ·exact d
   ·obtain⟨rfl,h',j,rfl,p,O⟩:=d
    repeat (any_goals (first | assumption | wp_step))
    exact h _ _ p O
end
end L2

namespace L2
open PySem PySem.Spec PyProof.Rows
def zdI(P:Program)(w:World)(a:Addr)(n:Nat)(h:Heap):Prop:=∃S,h.SetOf (tk P w) a S n
variable{X:Cx}{P:Program}{w:World}
theorem zbN{K:W.Frag}(d:X.prog=P)(p:X.w=w)(x:X.K=K)(hc:X.calm=true):kj X (.type "set") (λxs H Q=>∃l ks,xs= [.ref l]/\SqL K H l (ks.map V.str)/\ks.length<=1000/\∀a,H a=none->Q (.ref a) (upd H a (.ext (zdI P w a (once ks).length)))):=by
 subst d p x;intro pins s σ H xs us Q I r h;obtain⟨l,ks,rfl,hl,hn,q⟩:=h;obtain⟨u,rfl,i⟩:=r.one;cases (show u=Value.ref l from i);obtain⟨a6,j,pl,hz⟩:=I.list hl;refine za6 (ks:=ks) (I.ok.hd hc) pl.isList j (by unfold scanBound;lia) λh' t' c f=> ?_
 have n:∀b o,s.heap.get? b=some o->h'.get? b=some o:=λb o e=>f b o (wI e) e
 refine⟨.ref _,_,I.laid n (ww _) ?_,rfl,q _ I.fresh⟩;refine⟨⟨_,c⟩,?_,λh1 h2 ⟨S,o,es,ep,t,e,z⟩ k=>⟨S,o,es,ep,t,k o e,z⟩⟩;obtain⟨o,es,ep,t,e,_⟩:=c;exact⟨o,e⟩
theorem z7y(c:X.prog=P)(j:X.w=w):kj X (.builtin "len") (λxs H Q=>∃a n,xs= [.ref a]/\H a=some (.ext (zdI P w a n))/\Q (.int (n:Nat)) H):=by
 subst c j;intro pins s σ H xs us Q I r h;obtain⟨a,n,rfl,ha,q⟩:=h;obtain⟨u,rfl,d⟩:=r.one;cases (show u=Value.ref a from d);obtain⟨⟨S,o,es,ep,t,e,b,hd,_,_,i,f,hn⟩,_,_⟩:=(show jt X.prog X.w H s.heap a (.ext (zdI X.prog X.w a n))from I.hok a _ ha);refine call_len_set e b hd f (by unfold scanBound at i;lia) ?_;exact⟨.int n,H,I.tok _,⟨_,by rw [hn]⟩,q⟩
def zd3:V->List V->Hp->VK->Prop:=λx vs H Q=>∃l xs y,x= .ref l/\vs= [.int 0,y]/\H l=some (.lst xs)/\xs.length < sizeLine/\Q .non (upd H l (.lst (y :: xs)))
theorem zat:MtM X "list.insert" zd3:=by
 intro pins s σ H x vs v us Q I f c h;obtain⟨l,xs,y,rfl,rfl,a,hz,q⟩:=h;cases f;obtain⟨i,u,rfl,r0,b⟩:=vals2 c;obtain⟨d,rfl⟩:=r0;obtain⟨z,a6,n,r,hl,e⟩:=I.lstM a;refine call_meets F.slot_list_insert ⟨_,e,rfl⟩ F.entry_list_insert (F.args_list_insert_3 _ _ _) (PySem.AutoSeq1.list_insert_list_int_val_1 l a6.toArray n 0 d u (by decide) (by rw [wz];lia)) ⟨e,?_⟩;refine⟨.non,_,I.lset (its':=u :: a6) a e (by simp) (.cons b r) ?_,rfl,q⟩;rw [wN]
 lia
def zdd(K:W.Frag):R2:=λx y H Q=>∃a b xs ys,x= .ref a/\y= .ref b/\SqL K H a xs/\SqL K H b ys/\xs.all yW=true/\ys.all yW=true/\Q (.bl (!eqL xs ys)) H
theorem za4{K:W.Frag}(C:X.K=K)(F:X.A.units + 1 < cLine):OpR X (compareOp .NotEq) (zdd K):=by
 subst C;intro pins s σ H x y v u Q I B w h;have i:X.A.units < cLine:=by lia
 obtain⟨a,b,xs,ys,rfl,rfl,ha,o,l,n,q⟩:=h;cases B;cases w;obtain⟨a6,r,pl,hz⟩:=I.list ha;obtain⟨E,r2,f,_⟩:=I.list o;have l1:=r.length;have l2:=r2.length;by_cases hl:xs.length=ys.length
 ·refine SeqAt.RcNeAt.lists (e:=λj=>eqV (xs.getD j .non) (ys.getD j .non)) pl.isList f.isList (by rw [wz,wz];lia) i (λj h1 h2=> ?_) _ _ _ _ ⟨.bl (!eqL xs ys),H,I,?_,q⟩
  ·rw [wz]at h1;have c:xs[j]? =some xs[j]:=wa (by lia);have d:ys[j]? =some ys[j]:=wa (by lia);obtain⟨w1,t,p⟩:=r.get c;obtain⟨w2,D,z⟩:=r2.get d;rw [w06,w06,(we.mp t).2,(we.mp D).2,wb,wb,c,d];exact z68 p z (qN.mp l _ (qL c)) (qN.mp n _ (qL d))
  ·show Value.bool _=Value.bool _
   rw [eqL,wL hl,w1u,wz,<-l1]
 ·refine SeqAt.RcNeAt.lists_lengths pl.isList f.isList ?_ i _ _ _ _ ⟨.bl (!eqL xs ys),H,I,?_,q⟩
  ·rw [wz,wz,bne_iff_ne,<-l1,<-l2];exact hl
  ·show Value.bool true=Value.bool _
   rw [eqL,wH hl,w19];rfl
def zf4{tg e:Expr}{w1 w2:TI}(h1:PI X tg e w1)(h2:PI X tg e w2):PI X tg e (λσ H R=>w1 σ H R\/w2 σ H R):=λpins s σ H R I h=>h.elim (h1 pins s σ H R I) (h2 pins s σ H R I)
end L2

namespace L2
open PySem PySem.Spec PyProof.Rows
noncomputable def hid(H:Hp)(d:Addr):Hp:=λb=>if b=d then none else H b
variable{H:Hp}{d:Addr}
theorem ju{b:Addr}(h:b≠d):hid H d b=H b:=wM h
theorem yU:hid H d d=none:=wY rfl
theorem z44{o:HO}(h:H d=none):hid (upd H d o) d=H:=by
 funext b
 by_cases e:b=d
 ·subst e;rw [yU,h]
 ·rw [ju e,zl e]
theorem z1T{b:Addr}(h:H b=none):hid H d b=none:=by
 unfold hid;split
 ·rfl
 ·exact h
section
variable{X:Cx}{pins:List (Addr×Obj)}{σ:St}{H2:Hp}{s s':Shared}{xs:List V}
theorem Inv.hide(I:Inv X pins σ H s)(hd:H d=some (.lst xs)):Inv X pins σ (hid H d) s:=by
 have nd:∀{b:Addr} {o:HO},H b=some o->(∀ys,o≠ .lst ys)->hid H d b=some o:=λ{b o} e n=>by
  rw [ju (λz=>by rw [z,hd]at e;cases e;exact n _ rfl)];exact e
 refine⟨I.ok,I.os,I.bare,⟨I.base.keep,I.base.slot,λb o e n f=>z1T (I.base.free b o e n f),I.base.there,λb ys e=>nd (I.base.tups b ys e) (by intro _ z;cases z),λb o u e=>nd (I.base.frzs b o u e) (by intro _ z;cases z),λb ps e=> ?_⟩,
  I.loc,I.cell,z1T I.free,λx c e=>z1T (I.freeC x c e),λp hp=> ?_,λb u e=> ?_,I.len⟩
 ·obtain⟨more,z⟩:=I.base.tbls b ps e;exact⟨more,nd z (by intro _ z;cases z)⟩
 ·obtain⟨a1,a2,a⟩:=I.pin p hp;exact⟨a1,z1T a2,a⟩
 ·have nb:b≠d:=λz=>by rw [z,yU]at e;cases e
  rw [ju nb]at e;exact(I.hok b u e).stay (λc v _ q=>q) (λc q=>nd q (by intro _ z;cases z)) λc ys q=>nd q (by intro _ z;cases z)
theorem Inv.readopt(J:Inv X pins σ H2 s')(I:Inv X pins σ H s)(hd:H d=some (.lst xs))(h2:H2 d=none)(new:jt X.prog X.w (upd H2 d (.lst xs)) s'.heap d (.lst xs)):Inv X pins σ (upd H2 d (.lst xs)) s':=by
 have ne:∀{b:Addr},H b=none->b≠d:=λ{b} e z=>by rw [z,hd]at e;cases e
 have a:∀{b:Addr} {o:HO},H2 b=some o->upd H2 d (.lst xs) b=some o:=λ{b o} e=>by rw [zl (λz=>by rw [z,h2]at e;cases e)];exact e
 refine⟨J.ok,J.os,J.bare,⟨J.base.keep,J.base.slot,λb o e n f=> ?_,J.base.there,λb ys e=>a (J.base.tups b ys e),λb o u e=>a (J.base.frzs b o u e),λb ps e=> ?_⟩,
  J.loc,J.cell,?_,λx c e=> ?_,λp hp=> ?_,λb u e=> ?_,J.len⟩
 ·rw [zl (ne (I.base.free b o e n f))];exact J.base.free b o e n f
 ·obtain⟨more,z⟩:=J.base.tbls b ps e;exact⟨more,a z⟩
 ·rw [zl (ne I.free)];exact J.free
 ·rw [zl (ne (I.freeC x c e))];exact J.freeC x c e
 ·obtain⟨a1,a2,h⟩:=J.pin p hp;exact⟨a1,by rw [zl (ne (I.pin p hp).2.1)];exact a2,h⟩
 ·by_cases hb:b=d
  ·subst hb;rw [zj]at e;cases e;exact new
  ·rw [zl hb]at e;exact(J.hok b u e).stay (λc v _ q=>q) (λc q=>a q) λc ys q=>a q
def zct(i:Nat)(lf:Addr)(sp:Sp)(E:XK)(t:TA):TE:=λσ H Q=>σ[i]? =some (some (.ref lf))/\t σ H λvs H1=>∃d xs,H1 d=some (.lst xs)/\sp vs (hid H1 d) (λv H2=>H2 d=none->Q v (upd H2 d (.lst xs))) E
theorem z9M{CX:CXT}{k i:Nat}{lf:Addr}{sp:Sp}{E:XK}{x:Str}{p pos:Pos}{e:Expr}{es:List Expr}{t:TA}(W:WorkOk X.prog X.w X.K X.mg X.base CX k X.fs X.H₀ X.s₀ lf sp)(M:z1h CX X E)(F:X.ex= [])(hr:Room k X.A)(S:X.N[i]? =some x)(hv:Vis X.env.scope x)(ha:PA X (e :: es) t)
  (hd:(x == ("__debug__":Str))=false:=by decide) (O:(x == ("__classdict__":Str))=false:=by decide) (he:starEach (e :: es) X.env=(false,eval e X.env) :: starEach es X.env:=by rfl) (aF:(backTo pos (starEach es X.env)).any (·.1)=false:=by rfl):
  PE X (.Call (.Name x p) (e :: es) [] pos) (zct i lf sp E t):=by
 intro pins s σ H Q I h;obtain⟨h1,h⟩:=h;refine Qk (zdV I S hv h1 (λu P=> ?_) hd O);cases (show u=Value.ref lf from P);have un:∀{H1:Hp} {s1:Shared},Inv X pins σ H1 s1->Un X.fs [] X.H₀ H1 X.s₀.heap s1.heap:=λ{H1 s1} J=>by
  have:=J.base;rw [F]at this;exact this
 refine PySem.W.callWith_F (W.here s H (un I)) (thn (ha pos pins s σ H _ I h) ?_) he aF;rintro us s1 ⟨vs,H1,a,r,d,xs,c,q⟩;refine⟨W.here s1 H1 (un a),?_⟩;have f:=a.hide c;have same:∀s':Shared,(∀b o,s1.heap.get? b=some o->hid H1 d b=none->b∉frs X.stack->s'.heap.get? b=some o)->∀B:Hp,jt X.prog X.w B s'.heap d (.lst xs):=λs' kp B=>by
  obtain⟨D,a6,n,C,l⟩:=(show jt X.prog X.w H1 s1.heap d (.lst xs)from a.hok d _ c);exact⟨D,a6,n,C,kp d _ l yU λz=>by have:=a.stkFree d z;rw [c]at this;cases this⟩
 refine w1G (w0r (W.run X.A X.stack s1 (hid H1 d) us vs _ E hr f.env0 (un f) r q) λr s' hq=> ?_);cases r with
 | error e=>exact M pins σ _ s1 e s' f hq
 | ok fl=>
  cases fl with
  | ret u=>
   obtain⟨v,H2,L,T,j,Z,R,U⟩:=hq;obtain⟨v',y,G,eZ,Y,e2⟩:=f.after (Q:=λv' H'=>v'=v/\H'=H2) ⟨v,H2,L,T,j,Z,R,rfl,rfl⟩;subst Y e2;have h2:y d=none:=by
    obtain⟨D,a6,n,C,l⟩:=(show jt X.prog X.w H1 s1.heap d (.lst xs)from a.hok d _ c);exact j.free d _ l yU (by simp)
   exact⟨v',_,G.readopt a c h2 (same s' (λb o e n nf=>j.keep b o e n nf (by simp)) _),eZ,U h2⟩
  | next=>exact False.elim hq
  | brk=>exact False.elim hq
  | cont=>exact False.elim hq
end
theorem Fun.okS0{P:Program}{w:World}{K:W.Frag}{mg:Str->Option Value}{base:Heap}{x qual:Str}{st:Stmt}{f:Addr}{fd:FuncData}{N ps:List Str}{k:Nat}{sp:SpS}(F:Fun K x qual st f fd)(S:FnScope N ps (zi st))(len:∀outer s vs H Q E,sp outer s vs H Q E->vs.length=ps.length)
  (a:∀(ac:Value) (A:Around) (outer:List Env) (s:Shared) (H:Hp) (vs:List V) (Q:VK) (E:XK),Room k (A.deeper (envOfC qual (zi st) s.heap.objs.size f ac))->sp outer s vs H Q E->
   ∃t,PSs (z36 CX0 P w K mg base N qual (zi st) f ac A outer s H E).nox (jO st) t/\t {nx:=λ_ H'=>Q .non H',rt:=Q} (start N vs) H):FnOkS P w K mg base CX0 (k + 1) f fd ps sp:=
 F.okS S len λac A outer s H vs Q E hr h=>by
  obtain⟨t,h1,q⟩:=a ac A outer s H vs Q E hr h;exact⟨t,h1.nox,q⟩
end L2

namespace L2
open PySem PySem.Spec PyProof.Rows
noncomputable def Ite(K:W.Frag)(b:Addr):It:=
 ⟨λi H => ∃ ys y, SqL K H b ys /\ ys[i]? = some y,
  λi H v H'=>∃p y,v= .ref p/\H p=none/\H'=upd H p (.tup [.int (i:Int),y])/\∀ys,SqL K H b ys->ys[i]? =some y,
  λi H=>∃ys,SqL K H b ys/\ys.length<=i⟩
def zdX(e it b:Addr)(i:Nat)(h:Heap):Prop:=(∃a,IsEnum h e it (i:Int) a)/\h.IsListIter it b i
variable{elts:List Expr}{tp:Pos}
theorem zaq{P:Program}{w:World}{K:W.Frag}{x1}{e it b:Addr}(B:e≠it):
  Turn P w K (.Tuple elts x1 tp) (Ite K b) [e,it] e (zdX e it b) where
 mem:=by simp
 obj:=λi h st c hc=>by
  obtain⟨⟨f,he⟩,⟨C,x,c2,d2⟩⟩:=st;simp only [wG,qi,QG]at hc;rcases hc with rfl | rfl
  ·exact⟨_,he,λv q=>by cases q⟩
  ·exact⟨C,x,λv q=>by rw [d2]at q;cases q⟩
 keep:=λi h h' st k=>by
  obtain⟨⟨f,he⟩,h2⟩:=st;exact⟨⟨f,k e (by simp) _ he⟩,h2.at λo z=>k it (by simp) o z⟩
 item:=by
  intro X j u p hc i pins s σ H E I a st t;subst j u p;obtain⟨ys,y,d,A⟩:=t;obtain⟨L,l,q,O⟩:=I.list d;obtain⟨v,T,S⟩:=l.get A;obtain⟨⟨f,he⟩,h2⟩:=st;refine wpAny_pyNext_enum_item he h2 q.isList (by simpa using T) B λhh F J Q U D=>⟨_,rfl,?_⟩
  refine wpAny_letOwnedTupleGo_enum F λn R r=> ?_
  have lt:∀{c o},s.heap.get? c=some o->c≠s.heap.objs.size:=λz=>wW (wI z)
  have kk:∀c o,c∉ [e,it]->s.heap.get? c=some o->n.get? c=some o:=λc o hc z=>by
   simp only [wG,qi,QG,not_or]at hc;exact r.extBut _ _ hc.1 (D c o hc.1 hc.2 z)
  have M:n.get? s.heap.objs.size=some {cls:= .type "tuple",data:= .seq #[.int i s.toks,v]}:=r.extBut _ _ (w1r (lt he)) Q;have fresh:H s.heap.objs.size=none:=I.hok.fresh (ww _);have N:Inv X pins σ (upd H s.heap.objs.size (.tup [.int (i:Int),y])) {s with heap:=n,toks:=s.toks + 1}:=I.turnedLaid (t':=s.toks + 1) (ch:= [e,it]) kk a (ww _) ⟨jb (by show 2<=_;decide),[.int (i:Int) s.toks,v],.cons ⟨_,rfl⟩ (.cons S .nil),⟨_,M,rfl,0,rfl⟩⟩;refine⟨.ref s.heap.objs.size,_,N,rfl,⟨s.heap.objs.size,y,rfl,fresh,rfl,λY h'=> ?_⟩,⟨⟨v,by simpa using R⟩,J.at λo z=>r.extBut _ o B.symm z⟩,λc hc=> ?_⟩
  ·rw [I.list_inj h' d];exact A
  ·have G:c≠s.heap.objs.size:=by
    simp only [wG,qi,QG]at hc;obtain⟨C,x,_⟩:=id h2;rcases hc with rfl | rfl
    ·exact lt he
    ·exact lt x
   rw [zl G];exact(a c hc).1
 done:=by
  intro X j u p hc i pins s σ H E I a st t;subst j u p;obtain⟨ys,d,Z⟩:=t;obtain⟨L,l,q,O⟩:=I.list d;have hl:=l.length;obtain⟨⟨f,he⟩,h2⟩:=st;refine wpAny_pyNext_enum_end (I.ok.hd hc) he h2 q.isList (by simp;lia) λh' k=>⟨rfl,I.turnedL (t':=s.toks) (ch:= [e,it]) (λc o hc z=> ?_) a⟩
  simp only [wG,qi,QG,not_or]at hc;exact k c o hc.2 z
 self:=λ_ _ _ _ _ st h=>let ⟨⟨_,he⟩,_⟩:=st;wpAny_pyIter_enum he h
variable{X:Cx}
section
variable{x1:Nat}
def zeP(K:W.Frag)(ta:TA):TI:=λσ H R=>ta σ H λvs H1=>∃b,vs= [.ref b]/\(∃ys,SqL K H1 b ys)/\R (Ite K b) H1
theorem zcP{b:Expr}{ta:TA}{p pos:Pos}(o:Gl X "enumerate")(hm:X.mg "enumerate"=none)(ha:PA X [b] ta)(hs:starEach [b] X.env= [(false,eval b X.env)]:=by rfl):
  PI X (.Tuple elts x1 tp) (.Call (.Name "enumerate" p) [b] [] pos) (zeP X.K ta):=by
 intro pins s σ H R I h;refine Call_ (z0Z I o hm boot_enumerate (Q9 (thn (ha pos pins s σ H _ I h) ?_) (by rw [hs];rfl) (by rfl)));rintro us s1 ⟨vs,H1,a,r1,i⟩;obtain⟨l2,e,⟨ys,n⟩,q⟩:=i;subst e;cases r1 with | cons j r2=>
 cases r2;cases j;obtain⟨r,t,pl,_⟩:=a.list n;refine call_enumerate_list pl.isList λh' d l u kk=> ?_
 refine wpAny_pyIter_enum d ?_;refine⟨s1.heap.objs.size + 1,[s1.heap.objs.size + 1,s1.heap.objs.size],_,_,H1,rfl,a.kept (t':=s1.toks) kk,zaq (b:=l2) (Nat.succ_ne_self _),⟨⟨_,d⟩,l⟩,λb f=> ?_,q⟩;have c:s1.heap.objs.size<=b:=by
  simp only [wG,qi,QG]at f;rcases f with e | e <;> rw [e]
  ·exact Nat.le_add_right _ 1
  ·exact ww _
 exact a.fpOk c (a.hok.fresh c)
end
structure KnC(P:Program)(w:World)(K:W.Frag)(mg:Str->Option Value)(base:Heap)(k:Nat)(x:Str)(ps:List Str)(sp:Sp)(C:Addr):Prop where
 ex:∃(f:Addr) (fd:FuncData),Mk K C f/\FnOk P w K mg base CX0 k f fd ps sp/\mg x=some (.ref C)/\Binds K fd ps []
structure KnM(P:Program)(w:World)(K:W.Frag)(mg:Str->Option Value)(base:Heap)(k:Nat)(m:Str)(ps:List Str)(sp:Sp)(C:Addr):Prop where
 cls:Cls K C
 ex:∃(f:Addr) (fd:FuncData),Meth K C m f/\FnOk P w K mg base CX0 k f fd ps sp/\Binds K fd ps []
section
variable{k:Nat}{x m:Str}{ps:List Str}{sp:Sp}{e o:Expr}{es:List Expr}{t:TA}{ta:TE}{p pos apos:Pos}{C:Addr}
theorem yp(M:KnC X.prog X.w X.K X.mg X.base k x ps sp C)(hr:Room (k + 1) X.A)(d:Gl X x)(ha:PA X (e :: es) t)
  (b:(x == ("__debug__":Str))=false:=by decide) (he:starEach (e :: es) X.env=(false,eval e X.env) :: starEach es X.env:=by rfl) (c:(backTo pos (starEach es X.env)).any (·.1)=false:=by rfl):
  PE X (.Call (.Name x p) (e :: es) [] pos) (zdz C sp [] E0 t):=by
 obtain⟨f,fd,M,F,hm,a⟩:=M.ex;exact zdv M F hr d hm a .nil z31 ha b he c
theorem zb1{pl:Sem Bool}(M:KnM X.prog X.w X.K X.mg X.base k m ps sp C)(hr:Room k X.A)(h:PE X o ta)(ha:PA X (e :: es) t)
  (c:starEach (e :: es) X.env=(false,eval e X.env) :: starEach es X.env:=by rfl) (d:(backTo pos (starEach es X.env)).any (·.1)=false:=by rfl)
  (ht:eval (.Call (.Attribute o m apos) (e :: es) [] pos) X.env=(do
   let a<-eval o X.env
   standAt apos.atName
   let (f,first)<-holding [a] (getMethod a m pl)
   callWith pos f first (backTo pos (starEach (e :: es) X.env)) (backToKw pos (keywordEach [] X.env))):=by rfl):
  PE X (.Call (.Attribute o m apos) (e :: es) [] pos) (z93 C m sp [] E0 ta t):=by
 obtain⟨f,fd,hm,F,b⟩:=M.ex;exact zcN h M.cls hm F hr b .nil z31 ha c d ht
theorem z3k{pl:Sem Bool}(M:KnM X.prog X.w X.K X.mg X.base k m ps sp C)(hr:Room k X.A)(c:PE X o ta)
  (ht:eval (.Call (.Attribute o m apos) [] [] pos) X.env=(do
   let a<-eval o X.env
   standAt apos.atName
   let (f,first)<-holding [a] (getMethod a m pl)
   callWith pos f first (backTo pos (starEach [] X.env)) (backToKw pos (keywordEach [] X.env))):=by rfl):
  PE X (.Call (.Attribute o m apos) [] [] pos) (z93 C m sp [] E0 ta zeh):=by
 obtain⟨f,fd,hm,F,b⟩:=M.ex;exact zaL c M.cls hm F hr b .nil z31 ht
end
end L2

namespace L2
open PySem PySem.Spec PyProof.Rows
noncomputable def Itv(K:W.Frag)(a:Addr)(n:Nat):It:=
 ⟨λi H=>i < n/\∃xs x,SqL K H a xs/\xs[n - 1 - i]? =some x,λi H x H'=>H'=H/\∀xs,SqL K H a xs->xs[n - 1 - i]? =some x,λi _=>n<=i⟩
variable{tg:Expr}{K:W.Frag}
theorem zaT{P:Program}{w:World}(a it:Addr)(n:Nat):Turn P w K tg (Itv K a n) [it] it (λi h=>i<=n/\h.IsRevIter it a ((n:Int) - 1 - (i:Int))) where
 mem:=by simp
 obj:=λi h st b f=>by
  have e:b=it:=by simpa using f
  subst e;obtain⟨_,o,e,c,d⟩:=st;exact⟨o,e,λv z=>by rw [d]at z;cases z⟩
 keep:=λi h h' st k=>⟨st.1,st.2.at λo e=>k it (by simp) o e⟩
 item:=by
  intro X r C D hc i pins s σ H E I l st q;subst r C D;obtain⟨hi,xs,x,hq,F⟩:=q;obtain⟨a6,M,p,hz⟩:=I.list hq;obtain⟨u,Q,L⟩:=M.get F;obtain⟨f0,f1,f2,t,B,y⟩:=l it (by simp);have A:(n:Int) - 1 - (i:Int)=((n - 1 - i:Nat):Int):=by lia
  have j:=st.2;rw [A]at j;refine wpAny_pyNext_rev_item j p.isList (x:=u) (by simpa using Q) λh' G N=> ?_
  have O:Inv X pins σ H {s with heap:=h'}:=I.turned (t':=s.toks) (λb o f e=>(N.2 b f).trans e) f0 f1 t B y;obtain⟨o,e,c,d⟩:=id G;have R:((n - 1 - i:Nat):Int) - 1=(n:Int) - 1 - ((i + 1:Nat):Int):=by lia
  exact⟨u,rfl,z7x (s:={s with heap:=h'}) e c d (by decide) ⟨x,H,O,L,⟨rfl,λys J=>by rw [I.list_inj J hq];exact F⟩,⟨hi,by rw [<-R];exact G⟩,λb f=>(l b f).1⟩⟩
 done:=by
  intro X r C D hc i pins s σ H E I l st q;subst r C D;have q:n<=i:=q;obtain⟨f0,f1,f2,t,B,y⟩:=l it (by simp);have A:(n:Int) - 1 - (i:Int)= -1:=by have:=st.1;lia
  have j:=st.2;rw [A]at j;exact wpAny_pyNext_rev_end (I.ok.hd hc) j λh' k=>⟨rfl,I.turned (t':=s.toks) (λb o f e=>k b o f e) f0 f1 t B y⟩
 self:=λ_ _ _ _ _ st h=>wpAny_pyIter_revIter st.2 h
section
variable{X:Cx}
def zfF(K:W.Frag)(ta:TA):TI:=λσ H R=>ta σ H λvs H1=>∃a xs,vs= [.ref a]/\SqL K H1 a xs/\R (Itv K a xs.length) H1
theorem zdM{b:Expr}{ta:TA}{p pos:Pos}(l:Gl X "reversed")(hm:X.mg "reversed"=none)(ha:PA X [b] ta)(hs:starEach [b] X.env= [(false,eval b X.env)]:=by rfl):
  PI X tg (.Call (.Name "reversed" p) [b] [] pos) (zfF X.K ta):=by
 intro pins s σ H R I h;refine Call_ (z0Z I l hm PyProof.Rows.boot_reversed (Q9 (thn (ha pos pins s σ H _ I h) ?_) (by rw [hs];rfl) (by rfl)));rintro us s1 ⟨vs,H1,a,r1,c⟩;obtain⟨l2,xs,e,i,q⟩:=c;subst e;cases r1 with | cons d r2=>
 cases r2;cases d;obtain⟨f,r,pl,_⟩:=a.list i;have hl:=r.length;refine call_reversed_list pl.isList ?_;refine wpAny_pyIter_revIter ⟨_,q5 _ rfl,rfl,rfl⟩ ?_;have n:((f.toArray.size:Nat):Int) - 1=((xs.length:Nat):Int) - 1 - ((0:Nat):Int):=by rw [wz];lia
 refine⟨s1.heap.objs.size,[s1.heap.objs.size],_,_,H1,rfl,a.kept (t':=s1.toks) λb o e=>wo _ e,zaT l2 _ xs.length,⟨qQ _,by rw [<-n];exact⟨_,q5 _ rfl,rfl,rfl⟩⟩,λb j=> ?_,q⟩;have e:b=s1.heap.objs.size:=by simpa using j
 subst e;exact a.fpOk (ww _) (a.hok.fresh (ww _))
end
variable{H:Hp}
theorem zdg{a:Addr}{xs:List V}{g:TG}{tb:TS}{D:Ends}{σ:St}(b:Nat->St->Hp->Prop)(h0:b 0 σ H)(hl:∀i σ H,i<=xs.length->b i σ H->SqL K H a xs)
  (hs:∀i x σ H,xs.reverse[i]? =some x->b i σ H->g x σ H λσ2 H2=>tb {D with nx:=b (i + 1),ct:=b (i + 1),bk:=D.nx} σ2 H2) (hd:∀σ H,b xs.length σ H->D.nx σ H):
  ∃W:Nat->Nat->St->Hp->Prop,(∃m,W 0 m σ H)/\∀i m σ H,W i m σ H->
   ((Itv K a xs.length).stop i H/\D.nx σ H)\/((Itv K a xs.length).go i H/\∃N:St->Hp->Prop,(∀σ' H',N σ' H'->∃c,c < m/\W (i + 1) c σ' H')/\∀x H',(Itv K a xs.length).yld i H x H'->g x σ H' λσ2 H2=>tb {D with nx:=N,ct:=N,bk:=D.nx} σ2 H2):=by
 refine⟨λi m σ H=>m=xs.length - i/\i<=xs.length/\b i σ H,⟨xs.length,by simp,qQ _,h0⟩,?_⟩;rintro i m σ H ⟨rfl,hi,p⟩;have q:=hl i σ H hi p;by_cases ag:i < xs.length
 ·refine .inr ⟨⟨ag,xs,xs[xs.length - 1 - i],q,by rw [wa (by lia)]⟩,b (i + 1),λσ' H' p'=>⟨xs.length - (i + 1),by lia,rfl,ag,p'⟩,λx H' y=> ?_⟩;obtain⟨e,y⟩:=y;subst e;exact hs i x σ _ (by rw [List.getElem?_reverse ag];exact y xs q) p
 ·have e:i=xs.length:=by lia
  subst e;exact .inl ⟨ww _,hd σ H p⟩
theorem z9L{b:Addr}{ys:List V}{tc:TT}{te:TE}{Q:List V->Hp->Prop}(a:Nat->List V->Hp->Prop)(h0:a 0 [] H)(hl:∀i zs H,i<=ys.length->a i zs H->SqL K H b ys/\zs.length < sizeLine)
  (hs:∀(i:Nat) y zs H p,ys[i]? =some y->a i zs H->H p=none->tc [some (.int (i:Int)),some y] (upd H p (.tup [.int (i:Int),y])) λc H2=>if c=true then te [some (.int (i:Int)),some y] H2 λz d=>a (i + 1) (zs ++ [z]) d else a (i + 1) zs H2) (hd:∀zs H,a ys.length zs H->Q zs H):
  z28 (Ite K b) (ze8 K 2 (z7G (z1F 0) (z7G (z1F 1) zeG))) tc te Q [none,none] H:=by
 refine⟨zfs,λi m zs H=>m=ys.length - i/\i<=ys.length/\a i zs H,⟨_,_,rfl⟩,⟨_,rfl,qQ _,h0⟩,?_⟩;rintro i m zs σ H ⟨l,n,rfl⟩ ⟨rfl,hi,p⟩;obtain⟨f,hz⟩:=hl i zs H hi p;refine⟨hz,?_⟩;by_cases ag:i < ys.length
 ·refine .inr ⟨⟨ys,ys[i],f,by simp [ag]⟩,λy d=>a (i + 1) (zs ++ [y]) d,λH2=>a (i + 1) zs H2,λy d z=>⟨ys.length - (i + 1),by lia,rfl,ag,z⟩,λH2 z=>⟨ys.length - (i + 1),by lia,rfl,ag,z⟩,λx H' y=> ?_⟩;obtain⟨h,v,rfl,hp,rfl,j⟩:=y;exact⟨h,[.int (i:Int),v],rfl,SqT.of zj,rfl,_,[v],rfl,v,[],rfl,rfl,⟨_,_,rfl⟩,hs i v zs H h (j ys f) p hp⟩
 ·have e:i=ys.length:=by lia
  subst e;exact .inl ⟨⟨ys,f,ww _⟩,hd zs H p⟩
end L2

namespace L2
open PySem PySem.Spec PyProof.Rows
variable{X:Cx}
theorem z42{K:W.Frag}{e:Expr}{f:Str}{pos:Pos}{ta:TE}(h:X.K=K)(he:PE X e ta)(a:attributeBase e f X.env (eval e X.env)=eval e X.env):PE X (.Attribute e f pos) (zeY K ta f):=by
 subst h;exact zz he a
theorem zc7:∀{bs:List Bool} {us:List Value},zL (bs.map V.bl) us->us=bs.map Value.bool
 | [],_,r=>by rw [w1q]at r;cases r;rfl
 | b :: bs,_,r=>by
  rw [qC]at r;cases r with
  | cons r1 r2=>
   rw [zc7 r2,show _=Value.bool b from r1]
   rfl
theorem zbw(hc:X.calm=true):kj X (.builtin "all") (λxs H Q=>∃(a:Addr) (bs:List Bool),xs= [.ref a]/\SqL X.K H a (bs.map V.bl)/\Q (.bl (bs.all id)) H):=by
 intro pins s σ H xs us Q I r h;obtain⟨a,bs,rfl,hq,q⟩:=h;obtain⟨u,rfl,t⟩:=vals1 r;cases t;obtain⟨a6,r',pl,hz⟩:=I.list hq;have w:=zc7 r';subst w;have n:a < s.heap.objs.size:=let ⟨o,ho,_⟩:=pl.isList;wI ho
 refine call_all_walk (wpAny_pyIter_list pl.isList ?_);refine⟨s.heap.objs.size,_,_,_,_,_,λi=>bs.getD i false,rfl,Walks.list (A:=X.A.in1) (I.ok.hd hc) _ a (wW n) (bs.map Value.bool).toArray,⟨⟨_,q5 _ rfl,rfl,rfl⟩,pl.isList.at λo e=>wo _ e⟩,λi v s' j x c f=> ?_,λh' tk l=> ?_⟩
 ·have c:((bs.map Value.bool).toArray)[i]? =some v:=c;rw [List.getElem?_toArray,wF]at c;cases d:bs[i]? with
  | none=>rw [d]at c;cases c
  | some b=>
   rw [d]at c;cases c;have e:bs.getD i false=b:=by rw [wb,d];rfl
   have f:j (bs.getD i false) s':=f;rw [e]at f;exact w0c f
 ·have p:((List.range ((bs.map Value.bool).toArray.size)).all λi=>bs.getD i false)=bs.all id:=by
   rw [wz,w9,QY,qN,qN];constructor
   ·intro h b d;obtain⟨i,hi,rfl⟩:=List.getElem_of_mem d;have:=h i (Qb.mpr hi)
    rwa [wb,wa hi]at this
   ·intro h i hi;have hi:=Qb.mp hi;rw [wb,wa hi];exact h _ (wu hi)
  rw [p];refine⟨.bl (bs.all id),H,I.kept λb o e=>l b o (λz=> ?_) (wo _ e),rfl,q⟩;rw [wx.mp z]at e;exact absurd (wI e) (QU _)
theorem z9X:bootBuiltins "all"=some (.builtin "all"):=by decide +kernel
end L2

namespace L2
open PySem PySem.Spec PyProof.Rows
theorem z9i{v:V}{s:Str}:eqV v (.str s)=true↔v= .str s:=by
 cases v <;> simp [eqV]
def zez(K:W.Frag):R2:=λx y H Q=>∃(a b:Addr) (xs:List V) (ss:List Str),x= .ref a/\y= .ref b/\SqT K H a xs/\SqT K H b (ss.map V.str)/\(∀v∈xs,yW v=true\/∃p zs,v= .ref p/\SqT K H p zs)/\∀t:Bool,(t=true↔xs=ss.map V.str)->Q (.bl t) H
variable{X:Cx}
theorem zb5{K:W.Frag}(N:X.K=K)(P:X.A.units + 1 < cLine):OpR X (compareOp .Eq) (zez K):=by
 subst N;intro pins s σ H x y v u Q I M G h;have J:X.A.units < cLine:=by lia
 obtain⟨a,b,xs,ss,rfl,rfl,ha,E,o,q⟩:=h;cases M;cases G;obtain⟨a6,r,pl,hz⟩:=I.tuple ha;obtain⟨C,r2,w,_⟩:=I.tuple E;have l1:=r.length;have l2:=r2.length;rw [w9]at l2;refine SeqAt.eq_tupleAt (e:=λj=>eqV (xs.getD j .non) ((ss.map V.str).getD j .non)) (show s.heap.IsTuple a a6.toArray from pl) (show s.heap.IsTuple b C.toArray from w) J (λj h1 h2=> ?_) ⟨.bl _,H,I,rfl,q _ ?_⟩
 ·rw [wz]at h1 h2;have D:j < xs.length:=by lia
  have c:j < ss.length:=by lia
  have d:xs[j]? =some xs[j]:=wa D;have l:(ss.map V.str)[j]? =some (.str ss[j]):=by rw [wF,wa c];rfl
  obtain⟨w1,F,i⟩:=r.get d;obtain⟨w2,O,n⟩:=r2.get l;rw [w06,w06,(we.mp F).2,(we.mp O).2,wb,wb,d,l];rcases o _ (qL d)with f | ⟨p,zs,e,hp⟩
  ·exact z68 i n f rfl
  ·show SeqAt.EqAt _ _ _ _ (eqV xs[j] (.str ss[j]))
   rw [e]at i ⊢;cases (show w1=Value.ref p from i);obtain⟨R,rfl⟩:=n;obtain⟨B,_,L,_⟩:=I.tuple hp;exact SeqAt.EqAt.tuple_str _ _ (show s.heap.IsTuple p B.toArray from L) (by show X.A.units + 1 < cLine;exact P)
 ·rw [wz,wz,<-l1,<-l2];constructor
  ·intro h;rw [qZ,qN,Qt]at h;obtain⟨h1,h2⟩:=h;refine List.ext_getElem (by rw [w9];exact h2) λj z S=> ?_
   have:=h1 j (Qb.mpr (by lia));have c:j < ss.length:=by lia
   rw [wb,wb,wa z,wF,wa c]at this;rw [List.getElem_map];exact z9i.mp this
  ·rintro rfl;rw [w9,qZ,qN,Qt];refine⟨λj t=> ?_,rfl⟩;have c:j < ss.length:=by have:=Qb.mp t;lia
   rw [wb,wF,wa c];exact z9i.mpr rfl
def zes(sp:Sp)(t:TA):TE:=λσ H Q=>t σ H λvs H1=>∃d xs,H1 d=some (.lst xs)/\sp (vs ++ []) (hid H1 d) (λv H2=>H2 d=none->Q v (upd H2 d (.lst xs))) E0
theorem zaN{k:Nat}{x:Str}{ps:List Str}{sp:Sp}{e:Expr}{es:List Expr}{t:TA}{p pos:Pos}(C:Kn X.prog X.w X.K X.mg X.base k x ps sp)(hr:Room k X.A)(S:Gl X x)(ha:PA X (e :: es) t)
  (P:(x == ("__debug__":Str))=false:=by decide) (he:starEach (e :: es) X.env=(false,eval e X.env) :: starEach es X.env:=by rfl) (Z:(backTo pos (starEach es X.env)).any (·.1)=false:=by rfl):
  PE X (.Call (.Name x p) (e :: es) [] pos) (zes sp t):=by
 obtain⟨f,fd,F,hm,L,N⟩:=C.ex;intro pins s σ H Q I h;refine Qk (z2J I S hm ?_ P);refine w0X (h₀:=X.base) I.ok.mod.kin L (thn (ha pos pins s σ H _ I h) ?_) he Z;rintro us s1 ⟨vs,H1,a,r,d,xs,c,q⟩;refine⟨a.kIn,?_⟩;have j:=a.hide c;have same:∀s':Shared,(∀b o,s1.heap.get? b=some o->hid H1 d b=none->b∉frs X.stack->s'.heap.get? b=some o)->∀B:Hp,jt X.prog X.w B s'.heap d (.lst xs):=λs' kp B=>by
  obtain⟨E,a6,n,D,l⟩:=(show jt X.prog X.w H1 s1.heap d (.lst xs)from a.hok d _ c);exact⟨E,a6,n,D,kp d _ l yU λz=>by have:=a.stkFree d z;rw [c]at this;cases this⟩
 have r2:zL (vs ++ []) (us ++ []):=r.append .nil;have hl:(us ++ []).length=ps.length:=by rw [<-r2.length];exact F.len _ _ _ _ q
 refine w1G (w0r (F.run X.A X.stack s1 (hid H1 d) ⟨us,[]⟩ (us ++ []) (vs ++ []) _ E0 hr j.env0 (N s1 us a.kIn hl) r2 q) λr s' hq=> ?_);cases r with
 | error e=>exact z31 pins σ _ s1 e s' j hq
 | ok Y=>
  cases Y with
  | ret u=>
   obtain⟨v,H2,J,O,i,U,M,R⟩:=hq;obtain⟨v',y,G,eZ,T,e2⟩:=j.after (Q:=λv' H'=>v'=v/\H'=H2) ⟨v,H2,J,O,i,U,M,rfl,rfl⟩;subst T e2;have h2:y d=none:=by
    obtain⟨E,a6,n,D,l⟩:=(show jt X.prog X.w H1 s1.heap d (.lst xs)from a.hok d _ c);exact i.free d _ l yU (by simp)
   exact⟨v',_,G.readopt a c h2 (same s' (λb o e n nf=>i.keep b o e n nf (by simp)) _),eZ,R h2⟩
  | next=>exact False.elim hq
  | brk=>exact False.elim hq
  | cont=>exact False.elim hq
theorem z2a{prog:Program}{w:World}{A:Around}{E:Value->Shared->Prop}{s:Shared}{t sl:Addr}{items:Array Value}{b a:Value}{lo hi:Option Int}{Q:Value->Shared->Prop}(ht:IsTup s.heap t items)(hs:s.heap.IsSliceOf sl b a .none)(pl:IsPart b lo)(i:IsPart a hi)
  (c:HT.sIx items.size 0 lo=0/\HT.sIx items.size items.size hi=items.size) (h:Q (.ref t) s):wpAny (model prog w) A (getItem (.ref t) (.ref sl)) Q E s:=by
 obtain⟨os,d,f,hds⟩:=id hs;have e:s.TypeIs (.ref sl) "slice":=⟨os,d,f⟩;unfold getItem
 try with_reducible refine QE ?_
 first | refine wy (wV ?_) | skip
 refine wy (wpAny_sequenceKey ht.typeIs (by decide) ?_);refine wy (wpAny_callSpecial?_slot (name:=Str.ofString "__getitem__") ht.typeIs Qa
  (wpAny_call_entry Qa ht.typeIs entry_tuple_getitem ?_ (args_tuple_getitem _ _)))
 show wpAny _ _ (Builtin.Tuple.tupleItemsOf (.ref t) >>= _) _ _ s
 refine wy (tupleItemsOf_ ht ?_);refine wy (wpAny_typeOf e ?_);rw [wY (by decide)];refine wy (HT.sliceApplied_gen hs pl i ?_);have j:((((HT.sIx items.size 0 lo:Nat):Int) == 0 && (1:Int) == 1 && (HT.sIx items.size items.size hi - HT.sIx items.size 0 lo) == items.size)=true):=by
  rw [c.1,c.2];simp
 show wpAny _ _ (if(((HT.sIx items.size 0 lo:Nat):Int) == 0 && (1:Int) == 1 && (HT.sIx items.size items.size hi - HT.sIx items.size 0 lo) == items.size)=true then _ else _) _ _ s
 rw [wY j];refine wy ?_;unfold Builtin.Tuple.tupleIsExact;refine wy (wpAny_typeOf ht.typeIs (wV ?_));rw [wY (by decide)];refine wy (wpAny_rule ?_);exact wV ⟨_,rfl,wV h⟩
def zf5(K:W.Frag):V->Option Int->Option Int->Hp->VK->Prop:=λx lo hi H Q=>∃a xs,x= .ref a/\SqT K H a xs/\(HT.sIx xs.length 0 lo=0/\HT.sIx xs.length xs.length hi=xs.length)/\Q (.ref a) H
theorem zc1:SlR X (zf5 X.K):=by
 intro pins s σ H x v i f lo hi sl Q I d hs pl c h;obtain⟨a,xs,rfl,b,e,q⟩:=h;cases d;obtain⟨a6,r,ht,hz⟩:=I.tuple b;have hlen:a6.toArray.size=xs.length:=by rw [wz];exact r.length.symm
 refine⟨"tuple",_,Qa.lookup,ht.typeIs,?_⟩;exact z2a ht hs pl c (by rw [hlen];exact e) ⟨.ref a,H,I,rfl,q⟩
def zdc:SlR X (λx lo hi H Q=>zeO X.K x lo hi H Q\/zf5 X.K x lo hi H Q):=z4F.or zc1
end L2

set_option Elab.async false
set_option linter.all false
set_option maxRecDepth 100000
set_option maxHeartbeats 1000000
namespace L2
open PySem PySem.Spec PyProof.Rows
theorem Room.m{j k:Nat}{A:Around}(r:Room k A)(h:j<=k:=by first | decide | lia):Room j A:=r.mono h
end L2
namespace Q12
open PySem L2 Cn Rw Qs
noncomputable def top(i:Nat):Stmt:=PySem.Challenge.pw_sheetask_k12_whole_clever_is_plain.main.body.getD i (.Pass ⟨0,0,0,0⟩)
noncomputable abbrev z1Q:Stmt:=top 2
noncomputable abbrev z2t:Stmt:=top 3
noncomputable abbrev z6h:Stmt:=top 4
noncomputable abbrev z1u:Stmt:=top 5
noncomputable abbrev kr:Stmt:=top 15
noncomputable abbrev z0Y:Stmt:=top 16
noncomputable abbrev z2k:Stmt:=top 17
noncomputable abbrev kQ:Stmt:=top 19
noncomputable abbrev z0e:Stmt:=top 20
noncomputable abbrev z1J:Stmt:=top 21
noncomputable abbrev kJ:Stmt:=top 22
noncomputable abbrev kF:Stmt:=top 23
noncomputable abbrev z2m:Stmt:=top 24
noncomputable abbrev z1n:Stmt:=top 25
noncomputable abbrev z4u:Stmt:=top 27
noncomputable abbrev z25:Stmt:=top 28
noncomputable abbrev z0H:Stmt:=top 29
noncomputable abbrev yR:Stmt:=top 31
noncomputable abbrev z0o:Stmt:=top 32
noncomputable abbrev z2O:Stmt:=top 33
noncomputable abbrev jT:Stmt:=top 34
noncomputable abbrev z0c:Stmt:=top 35
noncomputable abbrev z37:Stmt:=top 36
noncomputable abbrev z0L:Stmt:=top 37
noncomputable abbrev ko:Stmt:=top 38
noncomputable abbrev z3q:Stmt:=top 40
noncomputable abbrev z4l:Stmt:=top 41
noncomputable abbrev z3X:Stmt:=top 42
noncomputable abbrev z1U:Stmt:=top 43
noncomputable abbrev kP:Stmt:=top 44
noncomputable abbrev kW:Stmt:=top 45
noncomputable abbrev z5X:Stmt:=top 46
noncomputable abbrev z4r:Stmt:=top 47
noncomputable abbrev z0U:Stmt:=top 48
noncomputable abbrev z0C:Stmt:=top 49
noncomputable abbrev z4j:Stmt:=top 50
noncomputable abbrev z0k:Stmt:=top 52
noncomputable abbrev z0F:Stmt:=top 54
noncomputable abbrev z0g:Stmt:=top 56
noncomputable abbrev z1Y:Stmt:=top 58
noncomputable abbrev z1s:Stmt:=top 59
noncomputable abbrev z1r:Stmt:=top 60
noncomputable abbrev z0E:Stmt:=top 61
noncomputable abbrev z1v:Stmt:=top 62
noncomputable abbrev z0z:Stmt:=top 63
noncomputable abbrev jN:Stmt:=top 64
noncomputable abbrev ke:Stmt:=top 65
noncomputable abbrev z1R:Stmt:=top 66
noncomputable abbrev k8:Stmt:=top 67
noncomputable abbrev z03:Stmt:=top 68
noncomputable abbrev z0S:Stmt:=top 69
noncomputable abbrev kT:Stmt:=top 70
noncomputable abbrev yh:Stmt:=top 71
noncomputable abbrev kX:Stmt:=top 72
noncomputable abbrev z0X:Stmt:=top 73
noncomputable abbrev z0D:Stmt:=top 74
noncomputable abbrev z14:Stmt:=top 75
noncomputable abbrev kU:Stmt:=top 76
noncomputable abbrev ye:Stmt:=top 77
noncomputable abbrev z1i:Stmt:=top 78
noncomputable abbrev z5d:Stmt:=top 79
structure Txt(K:W.Frag)(mg:Str->Option Value):Prop where
 isinstance:mg "isinstance"=none
 int:mg "int"=none
 bool:mg "bool"=none
 list:mg "list"=none
 tuple:mg "tuple"=none
 str:mg "str"=none
 len:mg "len"=none
 range:mg "range"=none
 min:mg "min"=none
 max:mg "max"=none
 sum:mg "sum"=none
 sorted:mg "sorted"=none
 reversed:mg "reversed"=none
 zip:mg "zip"=none
variable{P:Program}{w:World}{mg:Str->Option Value}{base:Heap}{a rs os:List (Addr×List Int)}{b:Bool}{H H' H0 H1 H2:Hp}{p np l0 rp r0 r1 r2 dp d Tb T T1 T2 T3 C ah wl dx D al T4:Addr}{xs ws us vs:List V}{i s t j hl:Nat}{Q:V->Prop}{α:Type}{hs ns hq hr:List Str}{c:Cond}{x r:List Int}{n:Str}{th:Str->List Str}{tr:Str->List (List Int)}{sp:Sp}{qv u:V}{q q' k':Qn}{rows ys acc:List (List Int)}{z:Int}{kvs:List (Key×V)}{o:Addr×List Int}{lp:Pos}{mk:Qn->Qn->Qn}{E:XK}{R:Addr->VK}
section
variable{K:W.Frag}{f:Addr}{fd:FuncData}
seal PE PA PS PSs PT PI PO PG
local macro_rules | `(tactic| walk_at "s")=>`(tactic| exact⟨rfl,rfl,rfl,by decide +kernel,rfl,by decide +kernel,by decide +kernel⟩)
theorem nb{a b:Str}(h:(a == b)=false):a≠b:=Q2 h
local macro_rules | `(tactic| walk_at "cn")=>`(tactic| exact⟨by intros;(try dsimp only [z36,Cx.nox,Cx.wish]) <;> exact rfl⟩)
local macro_rules | `(tactic| walk_at "cl")=>`(tactic| first | with_reducible exact zeq | with_reducible exact zcI | with_reducible exact zd6 | with_reducible exact zcs | with_reducible exact zcV (by walk_at "ca") (by walk_at "cl") | with_reducible exact zbY (by walk_at "ca") (by walk_at "cl") | with_reducible exact zbj (by walk_at "ca") (by walk_at "cl") | with_reducible exact zbO (by walk_at "ca") (by walk_at "cl") | with_reducible exact zeE (by walk_at "ca") | with_reducible exact zdu (by walk_at "ca") | with_reducible exact zcR (by walk_at "ca") | with_reducible exact zcu (by walk_at "ca"))
local macro_rules | `(tactic| walk_at "ca")=>`(tactic| first | with_reducible exact zeZ (by walk_at "cl") (by walk_at "cl") (by walk_at "cn") | with_reducible exact zeD (by walk_at "cl") (by walk_at "cl") (by walk_at "cn") | with_reducible exact zer (by walk_at "cl") (by walk_at "cl") (by walk_at "cn") | with_reducible exact zdL (by walk_at "cl") (by walk_at "cl") (by walk_at "cn") | with_reducible exact zdZ (by walk_at "cl") (by walk_at "cl") (by walk_at "cn") | with_reducible exact zcw (by walk_at "cl") (by walk_at "cl") (by walk_at "cn") | with_reducible exact ca_ifJ3 (by walk_at "cl") (by walk_at "cl") (by walk_at "cn") | with_reducible exact ca_ifJ4 (by walk_at "cl") (by walk_at "cl") (by walk_at "cn") | with_reducible exact zbn (by walk_at "cl") (by walk_at "cn") | with_reducible exact zau (by walk_at "cl") (by walk_at "cn") | with_reducible exact z9T (by walk_at "cl") (by walk_at "cn") | with_reducible exact ca_while4 (by walk_at "cl") (by walk_at "cn") | with_reducible exact zdY (by walk_at "cl") (by walk_at "cn") | with_reducible exact ca_for2 (by walk_at "cl") (by walk_at "cn") | with_reducible exact zd0 (by walk_at "cl") (by walk_at "cn") | with_reducible exact ca_for4 (by walk_at "cl") (by walk_at "cn") | walk_at "cn")
def zu{i:Int}{v:V}(h:H p=some (.lst xs))(e:atI xs i=some v)(q:Q v):∃p' b a v',V.ref p= .ref p'/\V.int i= .int a/\SqL K H p' b/\atI b a=some v'/\Q v':=⟨p,xs,i,v,rfl,rfl,SqL.of h,e,q⟩
def zh{i:Int}{v:V}(h:H p=some (.tup xs))(e:atI xs i=some v)(q:Q v):∃p' b a v',V.ref p= .ref p'/\V.int i= .int a/\SqT K H p' b/\atI b a=some v'/\Q v':=⟨p,xs,i,v,rfl,rfl,SqT.of h,e,q⟩
def exr{P Q:α->Prop}{a:α}(h:P a)(q:Q a):∃x,P x/\Q x:=⟨a,h,q⟩
local macro_rules|`(!$x)=>`(exr rfl $x)
def ex2{β:Type}{A:α->Prop}{B:β->Prop}{Q:α->β->Prop}{a:α}{b:β}(h1:A a)(h2:B b)(q:Q a b):∃x y,A x/\B y/\Q x y:=⟨a,b,h1,h2,q⟩
theorem z22(f:α->V)(xs:List α)(lo hi:Option Int):z1A (xs.map f) lo hi=((xs.drop (HT.sIx xs.length 0 lo)).take (HT.sIx xs.length xs.length hi - HT.sIx xs.length 0 lo)).map f:=by
 unfold z1A;rw [w9,QJ,List.map_drop]
inductive spWide (K:W.Frag) (vs:List V) (H:Hp) (Q:VK) (E:XK):Prop
 | mk:∀a (ns:List Int) few bd,vs= [.ref a,.int few,.int bd]->SqL K H a (ns.map V.int)->ns.length<=63->0<=few->few<=bd->(∀(m:Int) (H':Hp),zw H H'->0<=m->m<=few + 40->Q (.int m) H')->spWide K vs H Q E
theorem z6b:FnScope ["_law_script","_law_few","_law_bound"] ["_law_script","_law_few","_law_bound"] (zi z1Y):=by walk_at "s"
theorem z5W(F:Fun K "_law_wide" "_law_wide" z1Y f fd)(T:Txt K mg):FnOk P w K mg base CX0 1 f fd ["_law_script","_law_few","_law_bound"] (spWide K):=by
 refine F.okB z6b (λvs H Q E h=> ?_) (λvs H Q E h=> ?_)
 ·obtain⟨a,ns,few,bd,rfl,_⟩:=h
  rfl
 obtain⟨a,ns,few,bd,rfl,d,o,h0,n,q⟩:=h;intro ac A outer l hr;refine⟨_,(zc (zD (cmT z7D (leN T.len (zb v0 ze)) za)
   (zf (zr v2))
   zv)
  (zf (zr (ixL (zF (zb v1 (zO (zP (z5e rfl) rfl T.min PyProof.Rows.boot_min (yo (zp yy v1 za) (zb v2 ze))) ze))) (jk z5j rfl T.int PyProof.Rows.boot_int (z8P (cmE zM (zp zU (zP (z1P rfl) rfl T.sum w0t (zm (jr yF v0 jX (jH za)) ze)) za) za) ze)))))),?_⟩
 generalize hK0:K=K1
 revert K1
 refine jj (by walk_at "cl") ?_;have hl:(ns.map V.int).length=ns.length:=w9 _;refine !⟨a,!⟨.inl d,ex2 rfl rfl (!?_)⟩⟩;refine ifF (wH (by rw [hl];lia)) ?_;refine !(!(ex2 rfl rfl (!⟨_,!⟨(zA rfl),λlp j=> ?_⟩⟩)));have a1:=zB j (.lst [V.int few,V.int (if bd < few + 40 then bd else few + 40)]);refine !(!⟨a,!⟨a1.seq d,λcp i=> ?_⟩⟩);rw [z22];refine⟨cp,!⟨SqL.of zj,ex2 rfl rfl ⟨(by show(0:Int) < 16;decide),rfl,.inr (!?_)⟩⟩⟩;have a2:=a1.trans (zB i (.lst (((ns.drop (HT.sIx ns.length 0 none)).take (HT.sIx ns.length ns.length (some 3) - HT.sIx ns.length 0 none)).map V.int)));obtain⟨b,e⟩:∃b,decide (V.int (((ns.drop (HT.sIx ns.length 0 none)).take (HT.sIx ns.length ns.length (some 3) - HT.sIx ns.length 0 none)).sum % 16)=V.int 5)=b:=⟨_,rfl⟩
 dsimp only at e ⊢;rw [e];have c:=(zB i (.lst (((ns.drop (HT.sIx ns.length 0 none)).take (HT.sIx ns.length ns.length (some 3) - HT.sIx ns.length 0 none)).map V.int))) lp _ zj;cases b with
 | true=>exact zu c j8 (q _ _ a2 (by split <;> lia) (by split <;> lia))
 | false=>exact zu c zH (q _ _ a2 (by lia) (by lia))
theorem zaz:("(":Str).length=1:=by decide +kernel
theorem z8K:(")":Str).length=1:=by decide +kernel
theorem z1t:(" ":Str).length=1:=by decide +kernel
theorem ze2:("less":Str).length=4:=by decide +kernel
theorem zex:("same":Str).length=4:=by decide +kernel
theorem zeK:("not":Str).length=3:=by decide +kernel
theorem zf9:("and":Str).length=3:=by decide +kernel
theorem zfx:("or":Str).length=2:=by decide +kernel
theorem zey:("(pick ":Str).length=6:=by decide +kernel
theorem zeo:("(cols ":Str).length=6:=by decide +kernel
theorem ze1:("(sort ":Str).length=6:=by decide +kernel
theorem zdo:("(first ":Str).length=7:=by decide +kernel
theorem zeH:("(both ":Str).length=6:=by decide +kernel
theorem zdN:("(pair ":Str).length=6:=by decide +kernel
theorem ze0:("(join ":Str).length=6:=by decide +kernel
theorem zdf:("(group ":Str).length=7:=by decide +kernel
theorem zcz:("(pick (same ":Str).length=12:=by decide +kernel
theorem zfR:(") ":Str).length=2:=by decide +kernel
theorem l_n:("n":Str).length=1:=by decide +kernel
theorem l_s:("s":Str).length=1:=by decide +kernel
theorem zfC:(" n":Str).length=2:=by decide +kernel
theorem zfI:(" s":Str).length=2:=by decide +kernel
local macro_rules | `(tactic| walk_at "sl")=>`(tactic| (simp only [w17,zaz,z8K,z1t,ze2,zex,zeK,zf9,zfx,zey,zeo,ze1,zdo,zeH,zdN,ze0,zdf,zcz,zfR,l_n,l_s,zfC,zfI,PySem.sizeLine_eq];try lia))
theorem z9x:∀i∈nums,(toString i:Str).length<=31/\i.natAbs.log2 < 1920:=by decide +kernel
theorem z09:∀i∈z0j,(toString i:Str).length<=31/\i.natAbs.log2 < 1920:=by decide +kernel
theorem z1a(hn:∀n∈hs,n.length<=10):∀{a:Side},Side.small hs a->(Side.txt a).length<=31
 | .nm s,h=>wP (hn s h) (by decide)
 | .nu i,h=>(z9x i h).1
theorem k5{hs:List Str}(hn:∀n∈hs,n.length<=10):∀{c:Cond},jA hs c->(yq c).length<=80 * c.size
 | .less a b,h=>by
  have h1:=z1a hn h.1;have h2:=z1a hn h.2;simp only [yq,ends,Cond.size]
  (walk_at "sl")
 | .same a b,h=>by
  have h1:=z1a hn h.1;have h2:=z1a hn h.2;simp only [yq,ends,Cond.size]
  (walk_at "sl")
 | .no c,h=>by
  have h1:=k5 hn (c:=c) h;simp only [yq,Cond.size]
  (walk_at "sl")
 | .an c d,h=>by
  have h1:=k5 hn (c:=c) h.1;have h2:=k5 hn (c:=d) h.2;simp only [yq,Cond.size]
  (walk_at "sl")
 | .or c d,h=>by
  have h1:=k5 hn (c:=c) h.1;have h2:=k5 hn (c:=d) h.2;simp only [yq,Cond.size]
  (walk_at "sl")
theorem zdq:inV (.str "less") [.str "less",.str "same"]=true:=by decide +kernel
theorem zdi:inV (.str "same") [.str "less",.str "same"]=true:=by decide +kernel
theorem zeB:inV (.str "not") [.str "less",.str "same"]=false:=by decide +kernel
theorem zeg:inV (.str "and") [.str "less",.str "same"]=false:=by decide +kernel
theorem zfh:inV (.str "or") [.str "less",.str "same"]=false:=by decide +kernel
noncomputable def wordOf:Cond->Str
 | .less _ _=>"less"
 | .same _ _=>"same"
 | .no _=>"not"
 | .an _ _=>"and"
 | .or _ _=>"or"
noncomputable def subs:Cond->List Cond
 | .no c=> [c]
 | .an c d=> [c,d]
 | .or c d=> [c,d]
 | _=> []
structure Seen(hs:List Str)(H:Hp)(c:Cond)(v:V)(p:Addr)(xs:List V):Prop where
 e:v= .ref p
 h:H p=some (.tup (.str (wordOf c) :: xs))
 lf:inV (.str (wordOf c)) [.str "less",.str "same"]=c.leaf
 sd:c.leaf=true->∃a b,xs= [Side.v a,Side.v b]/\Side.small hs a/\Side.small hs b/\yq c="(" ++ wordOf c ++ " " ++ ends a b ++ ")"/\(c= .less a b\/c= .same a b)
 pt:c.leaf=false->xs.length=(subs c).length/\(∀(i:Nat) x,xs[i]? =some x->∃d,(subs c)[i]? =some d/\zC H d x/\d.size + 1<=c.size/\jA hs d)/\
  yq c="(" ++ wordOf c ++ " " ++ Str.join " " ((subs c).map yq) ++ ")"
theorem seen{v:V}(h:zC H c v)(f:jA hs c):∃p xs,Seen hs H c v p xs:=by
 cases c with
 | less a b=>
  obtain⟨p,rfl,h⟩:=h;exact⟨p,_,rfl,h,zdq,λ_=>⟨a,b,rfl,f.1,f.2,rfl,.inl rfl⟩,λz=>(by cases z)⟩
 | same a b=>
  obtain⟨p,rfl,h⟩:=h;exact⟨p,_,rfl,h,zdi,λ_=>⟨a,b,rfl,f.1,f.2,rfl,.inr rfl⟩,λz=>(by cases z)⟩
 | no c=>
  obtain⟨p,x,rfl,h,h1⟩:=h;refine⟨p,_,rfl,h,zeB,λz=>(by cases z),λ_=>⟨rfl,λi y e=> ?_,rfl⟩⟩
  match i,e with
  | 0,e=>cases e;exact⟨c,rfl,h1,ww _,f⟩
 | an c d=>
  obtain⟨p,x,y,rfl,h,h1,h2⟩:=h;refine⟨p,_,rfl,h,zeg,λz=>(by cases z),λ_=>⟨rfl,λi y e=> ?_,rfl⟩⟩
  match i,e with
  | 0,e=>cases e;exact⟨c,rfl,h1,by simp only [Cond.size];lia,f.1⟩
  | 1,e=>cases e;exact⟨d,rfl,h2,by simp only [Cond.size];lia,f.2⟩
 | or c d=>
  obtain⟨p,x,y,rfl,h,h1,h2⟩:=h;refine⟨p,_,rfl,h,zfh,λz=>(by cases z),λ_=>⟨rfl,λi y e=> ?_,rfl⟩⟩
  match i,e with
  | 0,e=>cases e;exact⟨c,rfl,h1,by simp only [Cond.size];lia,f.1⟩
  | 1,e=>cases e;exact⟨d,rfl,h2,by simp only [Cond.size];lia,f.2⟩
theorem z6F{a:Side}(b:Side.small hs a):zbQ (Side.v a) (Side.txt a):=by
 cases a with
 | nm s=>exact .inr rfl
 | nu i=>exact .inl ⟨i,rfl,(z9x i b).2,rfl⟩
theorem z4K(x:V)(r:List V):z1A (x :: r) (some 1) none=r:=by
 unfold z1A;rw [show HT.sIx (x :: r).length 0 (some 1)=1 by unfold HT.sIx;simp];rw [HT.sIx_none,List.drop_succ_cons,w1b,wN,w0Y,qc]
theorem z4N{x:V}{r:List V}:¬(HT.sIx (x :: r).length 0 (some 1)=0/\HT.sIx (x :: r).length (x :: r).length none=(x :: r).length):=by
 rw [show HT.sIx (x :: r).length 0 (some 1)=1 by unfold HT.sIx;simp];rintro⟨z,_⟩;cases z
theorem z99(c:Cond):(subs c).length<=2:=by cases c <;> simp [subs]
theorem zec(c:Cond):(((subs c).map yq).map (·.length)).sum + ((subs c).map yq).length * 1<=(Str.join " " ((subs c).map yq)).length + 1:=by
 cases c with
 | less a b=>simp [subs]
 | same a b=>simp [subs]
 | no c=>simp [subs,Str.join]
 | an c d=>
  simp only [subs,qC,w1q,Str.join,w17,z1t,List.sum_cons,List.sum_nil,wN,Qo]
  lia
 | or c d=>
  simp only [subs,qC,w1q,Str.join,w17,z1t,List.sum_cons,List.sum_nil,wN,Qo]
  lia
inductive spSpelt (K:W.Frag) (n:Nat) (vs:List V) (H:Hp) (Q:VK) (E:XK):Prop
 | mk:∀v hs c,vs= [v]->zC H c v->jA hs c->(∀n∈hs,n.length<=10)->c.size<=n->c.size<=1000->(∀H',zw H H'->Q (.str (yq c)) H')->spSpelt K n vs H Q E
theorem z0R:FnScope ["_law_condition","_law_ends","_law_parts"] ["_law_condition"] (zi k8):=by walk_at "s"
theorem z3H(F:Fun K "_law_spelt" "_law_spelt" k8 f fd)(T:Txt K mg)(n:Nat)(e:Kn P w K mg base n "_law_spelt" ["_law_condition"] (spSpelt K n)):FnOk P w K mg base CX0 (n + 1) f fd ["_law_condition"] (spSpelt K (n + 1)):=by
 refine F.okB z0R (λvs H Q E h=> ?_) (λvs H Q E h=> ?_)
 ·obtain⟨v,hs,c,rfl,_⟩:=h
  rfl
 obtain⟨v,hs,c,rfl,hc,t,hn,hsz,R,q⟩:=h;obtain⟨p,xs,rfl,hp,lf,sd,pt⟩:=seen hc t;have wl:(wordOf c).length<=4:=by cases c <;> simp only [wordOf] <;> decide +kernel
 intro ac A outer M hr;refine⟨_,(zc (zD (kZ kK (ixT v0 za) (zF (zt zo (zt zo ze))) (by with_unfolding_all rfl))
   (zc (seT 1 z0R (zp zn (zp zn (jk z1Z rfl T.str Qd (zm (ixT v0 za) ze)) zo) (jk z1Z rfl T.str Qd (zm (ixT v0 za) ze))))
   (zf (zr (zp zn (zp zn (zp zn (zp zn zo (ixT v0 za)) zo) v1) zo))))
   zv)
  (zc (jY (j:=2) rfl z0R.nd rfl (w02 rfl) (CompSc.of (sx:=zi k8) (NX:= ["_law_condition","_law_ends","_law_parts"]) (fr:= []) (ix:= []) rfl rfl (by decide +kernel)) (z34 (jr z4F v0 (jH za) jX)) (λ_ _ _ _ _ _=>jg) (λ_ _ _ _ _ _=>(zQ e hr.m (zb v0 ze))))
  (zf (zr (zp zn (zp zn (zp zn (zp zn zo (ixT v0 za)) zo) (ky PySem.F.plainAttrs_str PySem.F.slot_str_join PySem.F.type_str_join z9p zo (zb v2 ze))) zo))))),?_⟩
 generalize hK0:K=K1
 revert K1
 refine jj (by walk_at "cl") ?_;refine⟨_,rfl,p,_,_,_,rfl,rfl,SqT.of hp,zH,(zA rfl),λlp y=> ?_⟩;have a1:=zB y (.lst [V.str "less",V.str "same"]);have r:=a1 _ _ hp;refine⟨lp,_,rfl,.inl (SqL.of zj),rfl,(by rfl),_,rfl,?_⟩;dsimp -proj only;rw [wM wO,lf];cases bw:c.leaf with
 | true=>
  obtain⟨a,b,rfl,sa,o,es,_⟩:=sd bw;have la:=z1a hn sa;have lb:=z1a hn o;refine ifT rfl ?_;refine⟨_,rfl,p,_,_,_,rfl,rfl,SqT.of r,j8,_,_,rfl,z6F sa,_,_,rfl,rfl,by(walk_at "sl"),_,rfl,p,_,_,_,rfl,rfl,SqT.of r,jz,_,_,rfl,z6F o,_,_,rfl,rfl,by(walk_at "sl"),?_⟩;refine⟨_,rfl,p,_,_,_,rfl,rfl,SqT.of r,zH,_,_,rfl,rfl,by(walk_at "sl"),_,_,rfl,rfl,by(walk_at "sl"),_,rfl,_,_,rfl,rfl,by(walk_at "sl"),_,_,rfl,rfl,by(walk_at "sl"),?_⟩;have:=q _ a1;rw [es]at this;exact this
 | false=>
  obtain⟨hl,C,es⟩:=pt bw;refine ifF rfl ?_;have S:=z99 c;refine⟨_,rfl,_,rfl,p,_,rfl,SqT.of r,z4N,λcp D=> ?_⟩;rw [z4K];have a2:=a1.trans (zB D (.tup xs));have u:upd (upd H lp (.lst [V.str "less",V.str "same"])) cp (.tup xs) cp=some (.tup xs):=zj;refine⟨cp,rfl,⟨_,SqT.of u⟩,?_⟩;refine z3d (xs:=xs) (λi ys H'=>zw (upd (upd H lp (.lst [V.str "less",V.str "same"])) cp (.tup xs)) H'/\ys=((subs c).take i).map λd=>V.str (yq d)) ⟨zw.refl _,rfl⟩ ?_ ?_ ?_
  ·rintro i ys H' hi ⟨l,rfl⟩;exact⟨SqT.of (l _ _ u),zE (by rw [w9,wK];lia)⟩
  ·rintro i x ys H' hi ⟨l,rfl⟩;obtain⟨d,hd,z,O,I⟩:=C i x hi;refine⟨_,rfl,x,hs,d,rfl,z.same (a2.trans l),I,hn,by lia,by lia,λN J=>⟨l.trans J,?_⟩⟩;rw [wQ,hd,wD]
   rfl
  ·rintro ys H' ⟨l,rfl⟩ rp B;rw [hl,qc];have s:=a2.trans (l.trans (zB B (.lst ((subs c).map λd=>V.str (yq d)))));have G:=s _ _ hp;have L:((subs c).map λd=>V.str (yq d))=((subs c).map yq).map V.str:=by rw [Qe];rfl
   have o:=k5 hn t;rw [es]at o;simp only [w17,zaz,z8K,z1t]at o;refine⟨_,rfl,p,_,_,_,rfl,rfl,SqT.of G,zH,_,_,rfl,rfl,by(walk_at "sl"),_,_,rfl,rfl,by(walk_at "sl"),rfl,_,rfl,_,_,(subs c).map yq,rfl,rfl,SqL.of (by rw [<-L];exact zj),?_,_,_,rfl,rfl,by(walk_at "sl"),_,_,rfl,rfl,by(walk_at "sl"),?_⟩
   ·have:=zec c;simp only [z1t]
    lia
   ·have:=q _ s;rw [es]at this;exact this
theorem z2i(F:Fun K "_law_spelt" "_law_spelt" k8 f fd)(T:Txt K mg)(a:∀k sp,FnOk P w K mg base CX0 k f fd ["_law_condition"] sp->Kn P w K mg base k "_law_spelt" ["_law_condition"] sp):∀n,FnOk P w K mg base CX0 n f fd ["_law_condition"] (spSpelt K n)
 | 0=>⟨λvs H Q E h=>by obtain⟨v,hs,c,rfl,_⟩:=h;rfl,λA outer s H args us vs Q E hr he d b h=>by
  obtain⟨v,hs,c,_,_,_,_,hz,_⟩:=h;have:=c.size_pos
  lia⟩
 | n + 1=>z3H F T n (a n _ (z2i F T a n))
inductive spTrue (K:W.Frag) (n:Nat) (vs:List V) (H:Hp) (Q:VK) (E:XK):Prop
 | mk:∀v hp rp hs (rs:List Int) c,vs= [v,.ref hp,.ref rp]->zC H c v->jA hs c->H hp=some (.lst (hs.map V.str))->H rp=some (.lst (rs.map V.int))->rs.length=hs.length->c.size<=n->(∀H',zw H H'->Q (.bl (ev hs rs c)) H')->spTrue K n vs H Q E
theorem zcK:decide (V.str "same"=V.str "less")=false:=by decide +kernel
theorem zcA:decide (V.str "and"=V.str "not")=false:=by decide +kernel
theorem zd4:decide (V.str "or"=V.str "not")=false:=by decide +kernel
theorem zeV:decide (V.str "and"=V.str "or")=false:=by decide +kernel
theorem ku:FnScope ["_law_condition","_law_heads","_law_row","_law_word","_law_sides","_law_part","_law_told"] ["_law_condition","_law_heads","_law_row"] (zi z03):=by walk_at "s"
theorem z47(F:Fun K "_law_true" "_law_true" z03 f fd)(T:Txt K mg)(n:Nat)(e:Kn P w K mg base n "_law_true" ["_law_condition","_law_heads","_law_row"] (spTrue K n)):FnOk P w K mg base CX0 (n + 1) f fd ["_law_condition","_law_heads","_law_row"] (spTrue K (n + 1)):=by
 refine F.okB ku (λvs H Q E h=> ?_) (λvs H Q E h=> ?_)
 ·obtain⟨v,hp,rp,hs,rs,c,rfl,_⟩:=h
  rfl
 obtain⟨v,hp,rp,hs,rs,c,rfl,hc,sm,X,D,U,hsz,q⟩:=h;obtain⟨p,xs,rfl,I,lf,sd,pt⟩:=seen hc sm;intro ac A outer sh hr;refine⟨_,(zc (seT 3 ku (ixT v0 za))
  (zc (zD (kZ kK v3 (zF (zt zo (zt zo ze))) (by with_unfolding_all rfl))
   (zc (seT 4 ku (zF ze))
   (zc (foR (z34 (jr z4F v0 (jH za) jX)) (gnM 5 ku)
    (zf (zD (ji (zP zX rfl T.isinstance q9 (zb v5 (zb (yb (v:= .ty "str") rfl T.str Qd rfl) ze))))
     (zf (jd (apP v4 (zm (ixL v2 (ky wU qB qE yi v1 (zb v5 ze))) ze))))
     (zf (jd (apP v4 (zb v5 ze)))))))
   (zc (zD (cmT zM v3 zo)
    (zf (zr (cmE z5L (ixL v4 za) (ixL v4 za))))
    zv)
   (zf (zr (cmE zM (ixL v4 za) (ixL v4 za)))))))
   zv)
  (zc (jY (j:=6) rfl ku.nd rfl (w02 rfl) (CompSc.of (sx:=zi z03) (NX:= ["_law_condition","_law_heads","_law_row","_law_word","_law_sides","_law_part","_law_told"]) (fr:= ["_law_heads","_law_row"]) (ix:= [1,2]) rfl rfl (by decide +kernel)) (z34 (jr z4F v0 (jH za) jX)) (λ_ _ _ _ _ _=>jg) (λ_ _ _ _ _ _=>(zQ e hr.m (zb v0 (zb v1 (zb v2 ze))))))
  (zc (zD (cmT zM v3 zo)
   (zf (zr (z7U (ixL (pv 6) za))))
   zv)
  (zc (zD (cmT zM v3 zo)
   (zf (zr (z3Y kK yd (pv 6) (by with_unfolding_all rfl))))
   zv)
  (zf (zr (z3Y ki yd (pv 6) (by with_unfolding_all rfl))))))))),?_⟩
 generalize hK0:K=K1
 revert K1
 refine jj (by walk_at "cl") ?_;refine !(zh I zH ?_);refine !⟨(zA rfl),λlp Y=> ?_⟩;have a1:=zB Y (.lst [V.str "less",V.str "same"]);refine⟨lp,!⟨.inl (SqL.of zj),rfl,(by rfl),!?_⟩⟩;generalize upd H lp (.lst [V.str "less",V.str "same"])=H1 at a1 ⊢;have C:=a1 _ _ I;have fB:=a1 _ _ X;have dP:=a1 _ _ D;rw [wM wO,lf];cases bw:c.leaf with
 | true=>
  obtain⟨a,b,rfl,sa,sb,_,Z⟩:=sd bw;refine ifT rfl ?_;refine⟨(zA rfl),λsp J=> ?_⟩;have b1:=zB J (.lst []);have aU:=b1 _ _ C;refine !(!⟨p,!⟨SqT.of aU,z4N,λcp z=> ?_⟩⟩);rw [z4K];have b2:=b1.trans (zB z (.tup [Side.v a,Side.v b]));have N:cp≠sp:=(zq zj z).symm;have B:upd (upd H1 sp (.lst [])) cp (.tup [Side.v a,Side.v b]) sp=some (.lst []):=by rw [zl N.symm];exact zj
  have o:upd (upd H1 sp (.lst [])) cp (.tup [Side.v a,Side.v b]) cp=some (.tup [Side.v a,Side.v b]):=zj;generalize upd (upd H1 sp (.lst [])) cp (.tup [Side.v a,Side.v b])=H2 at b2 B o ⊢;refine⟨cp,rfl,⟨_,SqT.of o⟩,z5Y (K:=K) (a:=cp) (xs:= [Side.v a,Side.v b]) (λi σ H'=>∃y:Option V,σ= [some (.ref p),some (.ref hp),some (.ref rp),some (.str (wordOf c)),some (.ref sp),y,none]/\zw H1 H'/\H' cp=some (.tup [Side.v a,Side.v b])/\H' sp=some (.lst (([num hs rs a,num hs rs b].take i).map V.int)))
   ⟨none,rfl,b2,o,B⟩ (λi σ H' _ ⟨_,_,_,h,_⟩=>SqT.of h) ?_ ?_⟩
  ·rintro i x σ H' hi ⟨y,rfl,s',R,l⟩;have key:∃d:Side,x=Side.v d/\Side.small hs d/\ [num hs rs a,num hs rs b].take (i + 1)= [num hs rs a,num hs rs b].take i ++ [num hs rs d]:=by
    match i,hi with
    | 0,hi=>cases hi;exact⟨a,rfl,sa,rfl⟩
    | 1,hi=>cases hi;exact⟨b,rfl,sb,rfl⟩
   obtain⟨d,rfl,M,et⟩:=key;have G:=s' _ _ fB;have bM:=s' _ _ dP;have fin:∃y:Option V,([some (.ref p),some (.ref hp),some (.ref rp),some (.str (wordOf c)),some (.ref sp),some (Side.v d),none]:List (Option V))= [some (.ref p),some (.ref hp),some (.ref rp),some (.str (wordOf c)),some (.ref sp),y,none]/\zw H1 (upd H' sp (.lst ((([num hs rs a,num hs rs b].take i).map V.int) ++ [V.int (num hs rs d)])))/\
     upd H' sp (.lst ((([num hs rs a,num hs rs b].take i).map V.int) ++ [V.int (num hs rs d)])) cp=some (.tup [Side.v a,Side.v b])/\upd H' sp (.lst ((([num hs rs a,num hs rs b].take i).map V.int) ++ [V.int (num hs rs d)])) sp=some (.lst (([num hs rs a,num hs rs b].take (i + 1)).map V.int)):=
    (!⟨s'.put J,by rw [zl N];exact R,by rw [zj,et,wD];rfl⟩)
   have S:((([num hs rs a,num hs rs b].take i).map V.int)).length < sizeLine:=zE (by rw [w9,wK];simp only [wN,Qo];lia);cases d with
   | nm s=>
    refine !⟨_,_,_,!⟨TyOf.str s,jK,!?_⟩⟩;refine ifT rfl ?_;have bj:hs.idxOf s < rs.length:=by rw [U];exact qz.mpr M
    have O:=jh M;refine !⟨.inl ⟨rfl,_,SqL.of l⟩,!(!⟨.inl ⟨rfl,_,SqL.of G⟩,!⟨hp,_,_,hs.idxOf s,rfl,rfl,SqL.of G,rfl,zT hs,O.1,O.2,zu bM (zW (int_at bj)) ⟨sp,ex2 rfl rfl ⟨l,S,?_⟩⟩⟩⟩)⟩;exact fin
   | nu k=>
    refine !⟨_,_,_,!⟨TyOf.int k,z1W,!?_⟩⟩;refine ifF rfl ?_;refine !⟨.inl ⟨rfl,_,SqL.of l⟩,!⟨sp,ex2 rfl rfl ⟨l,S,?_⟩⟩⟩;exact fin
  ·rintro σ H' ⟨y,rfl,s',R,l⟩;refine !⟨rfl,!?_⟩;have u:=q _ (a1.trans s');rcases Z with rfl | rfl
   ·refine ifT rfl ?_;exact !(zu l zH (!(zu l j8 (ex2 rfl rfl u))))
   ·refine ifF zcK ?_;exact !(zu l zH (!(zu l j8 ⟨rfl,qbl z2Q u⟩)))
 | false=>
  obtain⟨hl,oG,es⟩:=pt bw;refine ifF rfl ?_;have m9:=z99 c;refine !(!⟨p,!⟨SqT.of C,z4N,λcp z=> ?_⟩⟩);rw [z4K];have a2:=zB z (.tup xs);have o:upd H1 cp (.tup xs) cp=some (.tup xs):=zj;generalize upd H1 cp (.tup xs)=H2 at a2 o ⊢;refine⟨cp,rfl,⟨_,SqT.of o⟩,?_⟩;refine z3d (xs:=xs) (λi ys H'=>zw H2 H'/\ys=((subs c).take i).map λd=>V.bl (ev hs rs d)) ⟨zw.refl _,rfl⟩ ?_ ?_ ?_
  ·rintro i ys H' hi ⟨r,rfl⟩;exact⟨SqT.of (r _ _ o),zE (by rw [w9,wK];lia)⟩
  ·rintro i x ys H' hi ⟨r,rfl⟩;obtain⟨d,hd,ax,xo,oH⟩:=oG i x hi;have t:=a1.trans (a2.trans r);refine !(!(!⟨x,hp,rp,hs,rs,d,rfl,ax.same t,oH,t _ _ X,t _ _ D,U,by lia,λH3 s3=>⟨r.trans s3,?_⟩⟩));rw [wQ,hd,wD]
   rfl
  ·rintro ys H' ⟨r,rfl⟩ tp aD;rw [hl,qc];have a3:=a1.trans (a2.trans (r.trans (zB aD (.lst ((subs c).map λd=>V.bl (ev hs rs d))))));have u:=q _ a3;have L:((subs c).map λd=>V.bl (ev hs rs d)).all yW=true:=by
    rw [List.all_map,qN];intro d _
    rfl
   refine !⟨rfl,!?_⟩;cases c with
   | less a b=>cases bw
   | same a b=>cases bw
   | no c=>
    refine ifT rfl ?_;exact !(zu zj zH (!u))
   | an c d=>
    refine ifF zcA ?_;refine !⟨rfl,!?_⟩;refine ifF zeV ?_;refine !⟨tp,!⟨.inl (SqL.of zj),rfl,L,qbl ?_ u⟩⟩
    show(not (inV (V.bl false) [V.bl (ev hs rs c),V.bl (ev hs rs d)]))=(ev hs rs c && ev hs rs d)
    cases ev hs rs c <;> cases ev hs rs d <;> rfl
   | or c d=>
    refine ifF zd4 ?_;refine !⟨rfl,!?_⟩;refine ifT rfl ?_;refine !⟨tp,!⟨.inl (SqL.of zj),rfl,L,qbl ?_ u⟩⟩
    show inV (V.bl true) [V.bl (ev hs rs c),V.bl (ev hs rs d)]=(ev hs rs c || ev hs rs d)
    cases ev hs rs c <;> cases ev hs rs d <;> rfl
theorem z2V(F:Fun K "_law_true" "_law_true" z03 f fd)(T:Txt K mg)(a:∀k sp,FnOk P w K mg base CX0 k f fd ["_law_condition","_law_heads","_law_row"] sp->Kn P w K mg base k "_law_true" ["_law_condition","_law_heads","_law_row"] sp):∀n,FnOk P w K mg base CX0 n f fd ["_law_condition","_law_heads","_law_row"] (spTrue K n)
 | 0=>⟨λvs H Q E h=>by obtain⟨v,hp,rp,hs,rs,c,rfl,_⟩:=h;rfl,λA outer s H args us vs Q E hr he d b h=>by
  obtain⟨v,hp,rp,hs,rs,c,_,_,_,_,_,_,hz,_⟩:=h;have:=c.size_pos
  lia⟩
 | n + 1=>z47 F T n (a n _ (z2V F T a n))
theorem z7K{xs:List α}{i:Int}(h0:0<=i)(h1:i < (xs.length:Int)):∃(h:i.toNat < xs.length),atI xs i=some xs[i.toNat]:=by
 have h:i.toNat < xs.length:=by lia
 exact⟨h,z8L h0 (wa h)⟩
theorem z1g{i n:Int}(h:0 < n):0<=i % n/\i % n < n:=⟨Int.emod_nonneg _ (by lia),Int.emod_lt_of_pos _ h⟩
theorem zee{i:Int}(h0:0<=i)(h1:i < 6):∃m∈nums,atI (nums.map V.int) i=some (.int m):=by
 obtain⟨h,e⟩:=z7K (xs:=nums.map V.int) h0 (by show i < 6;exact h1);refine⟨nums[i.toNat]'(by simpa using h),wu _,?_⟩;rw [e,List.getElem_map]
theorem z1d{i:Int}(c:hs≠ []):∃s∈hs,atI (hs.map V.str) (i % (((hs.map V.str).length:Nat):Int))=some (.str s):=by
 have hl:0 < hs.length:=QR.mpr c;have hm:(0:Int) < (((hs.map V.str).length:Nat):Int):=by rw [w9];lia
 obtain⟨a,b⟩:=z1g (i:=i) hm;obtain⟨h,e⟩:=z7K (xs:=hs.map V.str) a b;refine⟨hs[(i % (((hs.map V.str).length:Nat):Int)).toNat]'(by simpa using h),wu _,?_⟩;rw [e,List.getElem_map]
inductive spAsking (K:W.Frag) (vs:List V) (H:Hp) (Q:VK) (E:XK):Prop
 | mk:∀hp a7 (hs:List Str),vs= [.ref hp,.int a7]->H hp=some (.lst (hs.map V.str))->hs≠ []->(∀(v:V) (c:Cond) (H':Hp),zw H H'->zC H' c v->jA hs c->c.size<=5->Q v H')->spAsking K vs H Q E
theorem jf:FnScope ["_law_heads","_law_seed","_law_one","_law_other","_law_number","_law_first","_law_second","_law_menu"] ["_law_heads","_law_seed"] (zi z0S):=by walk_at "s"
theorem z4y(F:Fun K "_law_asking" "_law_asking" z0S f fd)(T:Txt K mg):FnOk P w K mg base CX0 1 f fd ["_law_heads","_law_seed"] (spAsking K):=by
 refine F.okB jf (λvs H Q E h=> ?_) (λvs H Q E h=> ?_)
 ·obtain⟨hp,a7,hs,rfl,_⟩:=h
  rfl
 obtain⟨hp,a7,hs,rfl,hh,aq,q⟩:=h;have hlen:(0:Int) < (((hs.map V.str).length:Nat):Int):=by
  have:=QR.mpr aq;rw [w9];lia
 have tl:∀(x:Nat),x<=20->x<=sizeLine:=λx h=>jb (by lia)
 obtain⟨one,m1,e1⟩:=z1d (i:=a7) aq;obtain⟨other,m2,e2⟩:=z1d (i:=a7 / 3 + 1) aq;obtain⟨num,m3,e3⟩:=zee (z1g (i:=a7 / 2) (n:=6) (by decide)).1 (z1g (i:=a7 / 2) (n:=6) (by decide)).2;intro ac A outer sh hr;refine⟨_,(zc (seT 2 jf (ixL v0 (zp zU v1 (leN T.len (zb v0 ze)))))
  (zc (seT 3 jf (ixL v0 (zp zU (zp yy (zp yc v1 za) za) (leN T.len (zb v0 ze)))))
  (zc (seT 4 jf (ixL (zF (zt za (zt za (zcS (z5M z38 za) (zt za (yo (z40 ⟨by decide,by decide,by decide⟩) (zt za ze))))))) (zp zU (zp yc v1 za) za)))
  (zc (seT 5 jf (zG (zt zo (zb v2 (zb v4 ze)))))
  (zc (seT 6 jf (zG (zt zo (zb v2 (zb v3 ze)))))
  (zc (seT 7 jf (zF (zb v5 (zb (pv 6) (zZ (zG (zt zo (zZ (zG (zt zo (zb v3 (zb v4 ze)))) (zZ (zG (zt zo (zb v5 ze))) ze)))) ze)))))
  (zc (seT 7 jf (zp kC (pv 7) (zF (zZ (zG (zt zo (zb v5 (zb (pv 6) ze)))) (zZ (zG (zt zo (zZ (zG (zt zo (zb v4 (zb v3 ze)))) ze))) ze)))))
  (zc (seT 7 jf (zp kC (pv 7) (zF (zZ (zG (zt zo (zZ (zG (zt zo (zb v2 (zb v3 ze)))) (zZ (zG (zt zo (zb (pv 6) (zb v5 ze)))) ze)))) ze))))
  (zc (seT 7 jf (zp kC (pv 7) (zF (zZ (zG (zt zo (zb v4 (zt za ze)))) (zb (pv 6) (zZ (zG (zt zo (zb (pv 6) (zb v5 ze)))) ze))))))
  (zf (zr (ixL (pv 7) (zp zU (zp yc v1 za) za))))))))))))),?_⟩
 generalize hK0:K=K1
 revert K1
 refine jj (by walk_at "cl") ?_;refine !(!(!⟨hp,!⟨.inl (SqL.of hh),_,!⟨rfl,hlen,zu hh e1 ?_⟩⟩⟩));refine !(!⟨_,!⟨rfl,⟨by decide,by decide⟩,_,!⟨rfl,!⟨hp,!⟨.inl (SqL.of hh),_,!⟨rfl,hlen,zu hh e2 ?_⟩⟩⟩⟩⟩⟩);refine !⟨tl 6 (by decide),λl0 f0=> ?_⟩;refine zg (upd _ l0 _) rfl f0 λH0 n0 x0=> ?_
 replace x0:H0 l0=some (.lst (nums.map V.int)):=x0;refine !⟨_,!⟨rfl,⟨by decide,by decide⟩,_,!⟨rfl,(by show(0:Int) < 6;decide),l0,nums.map V.int,_,!⟨rfl,SqL.of x0,e3,?_⟩⟩⟩⟩;refine !(!⟨tl _ (by simp),λpF f1=> ?_⟩);refine zg (upd _ pF _) rfl f1 λH1 n1 x1=> ?_
 refine !(!⟨tl _ (by simp),λpS f2=> ?_⟩);refine zg (upd _ pS _) rfl f2 λH2 n2 x2=> ?_
 refine !(!(!(!⟨tl _ (by simp),λp3 f3=> ?_⟩)));refine zg (upd _ p3 _) rfl f3 λH3 n3 x3=> ?_
 refine !⟨tl _ (by simp),λp4 f4=> ?_⟩;refine zg (upd _ p4 _) rfl f4 λH4 n4 x4=> ?_
 refine⟨tl _ (by simp),λp5 f5=> ?_⟩;refine zg (upd _ p5 _) rfl f5 λH5 S x5=> ?_
 refine⟨tl _ (by simp),λl6 f6=> ?_⟩;refine zg (upd _ l6 _) rfl f6 λH6 C x6=> ?_
 refine !(!(!⟨tl _ (by simp),λp7 f7=> ?_⟩));refine zg (upd _ p7 _) rfl f7 λH7 B x7=> ?_
 refine !(!⟨tl _ (by simp),λp8 f8=> ?_⟩);refine zg (upd _ p8 _) rfl f8 λH8 z x8=> ?_
 refine⟨tl _ (by simp),λp9 f9=> ?_⟩;refine zg (upd _ p9 _) rfl f9 λH9 u x9=> ?_
 refine⟨tl _ (by simp),λO oI=> ?_⟩;refine zg (upd _ O _) rfl oI λax r I=> ?_
 refine⟨l6,O,_,!⟨rfl,(r _ _ (u _ _ (z _ _ (B _ _ x6)))),I,tl _ (by simp),λG oJ=> ?_⟩⟩;refine zg (upd _ G _) rfl oJ λav s R=> ?_
 refine !(!(!⟨tl _ (by simp),λag oK=> ?_⟩));refine zg (upd _ ag _) rfl oK λaA n12 af=> ?_
 refine !(!⟨tl _ (by simp),λar oM=> ?_⟩);refine zg (upd _ ar _) rfl oM λaC p ad=> ?_
 refine⟨tl _ (by simp),λam oN=> ?_⟩;refine zg (upd _ am _) rfl oN λaD o ap=> ?_
 refine⟨tl _ (by simp),λaa oO=> ?_⟩;refine zg (upd _ aa _) rfl oO λaw j M=> ?_
 refine⟨G,aa,_,!⟨rfl,(j _ _ (o _ _ (p _ _ (n12 _ _ R)))),M,tl _ (by simp),λZ oP=> ?_⟩⟩;refine zg (upd _ Z _) rfl oP λaB l L=> ?_
 refine !(!⟨tl _ (by simp),λas oQ=> ?_⟩);refine zg (upd _ as _) rfl oQ λaE e ak=> ?_
 refine !(!(!⟨tl _ (by simp),λau oR=> ?_⟩));refine zg (upd _ au _) rfl oR λaz d ai=> ?_
 refine⟨tl _ (by simp),λJ oS=> ?_⟩;refine zg (upd _ J _) rfl oS λay b U=> ?_
 refine⟨Z,J,_,!⟨rfl,(b _ _ (d _ _ (e _ _ L))),U,tl _ (by simp),λao oT=> ?_⟩⟩;refine zg (upd _ ao _) rfl oT λY a c=> ?_
 have y1:=(a _ _ (b _ _ (d _ _ (e _ _ (l _ _ (j _ _ (o _ _ (p _ _ (n12 _ _ (s _ _ (r _ _ (u _ _ (z _ _ (B _ _ (C _ _ (S _ _ (n4 _ _ (n3 _ _ (n2 _ _ x1)))))))))))))))))));have y2:=(a _ _ (b _ _ (d _ _ (e _ _ (l _ _ (j _ _ (o _ _ (p _ _ (n12 _ _ (s _ _ (r _ _ (u _ _ (z _ _ (B _ _ (C _ _ (S _ _ (n4 _ _ (n3 _ _ x2))))))))))))))))));have y3:=(a _ _ (b _ _ (d _ _ (e _ _ (l _ _ (j _ _ (o _ _ (p _ _ (n12 _ _ (s _ _ (r _ _ (u _ _ (z _ _ (B _ _ (C _ _ (S _ _ (n4 _ _ x3)))))))))))))))));have y4:=(a _ _ (b _ _ (d _ _ (e _ _ (l _ _ (j _ _ (o _ _ (p _ _ (n12 _ _ (s _ _ (r _ _ (u _ _ (z _ _ (B _ _ (C _ _ (S _ _ x4))))))))))))))));have y5:=(a _ _ (b _ _ (d _ _ (e _ _ (l _ _ (j _ _ (o _ _ (p _ _ (n12 _ _ (s _ _ (r _ _ (u _ _ (z _ _ (B _ _ (C _ _ x5)))))))))))))));have y6:=(a _ _ (b _ _ (d _ _ (e _ _ (l _ _ (j _ _ (o _ _ (p _ _ (n12 _ _ (s _ _ (r _ _ (u _ _ (z _ _ (B _ _ x6))))))))))))));have y7:=(a _ _ (b _ _ (d _ _ (e _ _ (l _ _ (j _ _ (o _ _ (p _ _ (n12 _ _ (s _ _ (r _ _ (u _ _ (z _ _ x7)))))))))))));have y8:=(a _ _ (b _ _ (d _ _ (e _ _ (l _ _ (j _ _ (o _ _ (p _ _ (n12 _ _ (s _ _ (r _ _ (u _ _ x8))))))))))));have y9:=(a _ _ (b _ _ (d _ _ (e _ _ (l _ _ (j _ _ (o _ _ (p _ _ (n12 _ _ (s _ _ (r _ _ x9)))))))))));have sU:=(a _ _ (b _ _ (d _ _ (e _ _ (l _ _ (j _ _ (o _ _ (p _ _ (n12 _ _ (s _ _ I))))))))));have sV:=(a _ _ (b _ _ (d _ _ (e _ _ (l _ _ (j _ _ (o _ _ (p _ _ (n12 _ _ R)))))))));have oU:=(a _ _ (b _ _ (d _ _ (e _ _ (l _ _ (j _ _ (o _ _ (p _ _ af))))))));have oV:=(a _ _ (b _ _ (d _ _ (e _ _ (l _ _ (j _ _ (o _ _ ad)))))));have oW:=(a _ _ (b _ _ (d _ _ (e _ _ (l _ _ (j _ _ ap))))));have DH:=(a _ _ (b _ _ (d _ _ (e _ _ (l _ _ M)))));have DJ:=(a _ _ (b _ _ (d _ _ (e _ _ L))));have xp:=(a _ _ (b _ _ (d _ _ ak)));have xq:=(a _ _ (b _ _ ai));have DK:=(a _ _ U);have y:=n0.trans (n1.trans (n2.trans (n3.trans (n4.trans (S.trans (C.trans (B.trans (z.trans (u.trans (r.trans (s.trans (n12.trans (p.trans (o.trans (j.trans (l.trans (e.trans (d.trans (b.trans (a))))))))))))))))))));have X:zC Y (.less (.nm one) (.nu num)) (.ref pF):=⟨pF,rfl,y1⟩;have N:zC Y (.same (.nm one) (.nm other)) (.ref pS):=⟨pS,rfl,y2⟩;have D:jA hs (.less (.nm one) (.nu num)):=⟨m1,m3⟩;have okS:jA hs (.same (.nm one) (.nm other)):=⟨m1,m2⟩;have oX:(1:Int)∈nums:=by decide +kernel
 obtain⟨i0,i1⟩:=z1g (i:=a7 / 5) (n:=9) (by decide);refine !(!⟨_,!⟨rfl,⟨by decide,by decide⟩,_,!⟨rfl,(by show(0:Int) < 9;decide),?_⟩⟩⟩);obtain⟨ix,t⟩:∃ix,a7 / 5 % 9=ix:=⟨_,rfl⟩
 rw [t]at i0 i1;have gg:ix=0\/ix=1\/ix=2\/ix=3\/ix=4\/ix=5\/ix=6\/ix=7\/ix=8:=by lia
 rcases gg with rfl | rfl | rfl | rfl | rfl | rfl | rfl | rfl | rfl
 ·exact zu c (by show atI _ (a7 / 5 % 9)=_;rw [t];rfl) (q _ _ _ y X D (by simp [Cond.size]))
 ·exact zu c (by show atI _ (a7 / 5 % 9)=_;rw [t];rfl) (q _ _ _ y N okS (by simp [Cond.size]))
 ·exact zu c (by show atI _ (a7 / 5 % 9)=_;rw [t];rfl) (q _ (.an (.same (.nm other) (.nu num)) (.no (.less (.nm one) (.nu num)))) _ y ⟨_,_,!⟨y5,(!y3),⟨_,!⟨y4,X⟩⟩⟩⟩ ⟨⟨m2,m3⟩,D⟩ (by simp only [Cond.size];decide))
 ·exact zu c (by show atI _ (a7 / 5 % 9)=_;rw [t];rfl) (q _ (.or (.less (.nm one) (.nu num)) (.same (.nm one) (.nm other))) _ y ⟨_,_,!⟨y7,X,N⟩⟩ ⟨D,okS⟩ (by simp only [Cond.size];decide))
 ·exact zu c (by show atI _ (a7 / 5 % 9)=_;rw [t];rfl) (q _ (.no (.less (.nu num) (.nm other))) _ y ⟨_,!⟨y9,(!y8)⟩⟩ ⟨m3,m2⟩ (by simp only [Cond.size];decide))
 ·exact zu c (by show atI _ (a7 / 5 % 9)=_;rw [t];rfl) (q _ (.an (.less (.nm one) (.nm other)) (.or (.same (.nm one) (.nm other)) (.less (.nm one) (.nu num)))) _ y ⟨_,_,!⟨oW,(!oU),⟨_,_,!⟨oV,N,X⟩⟩⟩⟩ ⟨⟨m1,m2⟩,okS,D⟩ (by simp only [Cond.size];decide))
 ·exact zu c (by show atI _ (a7 / 5 % 9)=_;rw [t];rfl) (q _ (.same (.nu num) (.nu 1)) _ y (!xp) ⟨m3,oX⟩ (by simp only [Cond.size];decide))
 ·exact zu c (by show atI _ (a7 / 5 % 9)=_;rw [t];rfl) (q _ _ _ y N okS (by simp [Cond.size]))
 ·exact zu c (by show atI _ (a7 / 5 % 9)=_;rw [t];rfl) (q _ (.an (.same (.nm one) (.nm other)) (.less (.nm one) (.nu num))) _ y ⟨_,_,!⟨xq,N,X⟩⟩ ⟨okS,D⟩ (by simp only [Cond.size];decide))
def yl{fs:List (Addr×List Int)}(a:H np=none)(n:zw H H')(x:H' np=some (.lst (refs fs)))(hm:∀r∈fs,H r.1=some (.lst (r.2.map V.int))):RowsAt H' np fs:=
 ⟨x,λr m=>⟨zq (hm r m) a,n _ _ (hm r m)⟩⟩
def z0Q{x y z u:α}{r:List α}:atI (x :: y :: z :: u :: r) 3=some u:=zW (j:=3) rfl
theorem z0J(f:α->Bool)(xs:List α){x:α}(h:xs[i]? =some x):(xs.take (i + 1)).filter f=(xs.take i).filter f ++ (if f x=true then [x]else []):=by
 rw [wQ,h,w0u]
 congr 1
 show List.filter f [x]=_
 rw [w1g]
 rfl
theorem zaG(rs:List (Addr×List Int)):(rs.filter λr=>ev hs r.2 c).map (·.2)=(rs.map (·.2)).filter λr=>ev hs r c:=by
 rw [QK]
 rfl
inductive spPicked (K:W.Frag) (vs:List V) (H:Hp) (Q:VK) (E:XK):Prop
 | mk:∀th tr q v a7,vs= [v,.int a7]->TabOk th tr->yL th tr H v q->okQ th q->(zx q).length<=4000000->(rowsOf th tr q).length<=100000->(∀(v':V) (c:Cond) (H':Hp),zw H H'->yL th tr H' v' (.pick c q)->jA (zd th q) c->c.size<=6->Q v' H')->spPicked K vs H Q E
theorem yf:FnScope ["_law_state","_law_seed","_law_condition","_law_rows","_law_line"] ["_law_state","_law_seed"] (zi kT):=by walk_at "s"
theorem z4p(F:Fun K "_law_picked" "_law_picked" kT f fd)(T:Txt K mg)(a:Kn P w K mg base 1 "_law_asking" ["_law_heads","_law_seed"] (spAsking K))(d:Kn P w K mg base 7 "_law_true" ["_law_condition","_law_heads","_law_row"] (spTrue K 7))(b:Kn P w K mg base 7 "_law_spelt" ["_law_condition"] (spSpelt K 7)):
  FnOk P w K mg base CX0 8 f fd ["_law_state","_law_seed"] (spPicked K):=by
 refine F.okB yf (λvs H Q E h=> ?_) (λvs H Q E h=> ?_)
 ·obtain⟨th,tr,q,v,a7,rfl,_⟩:=h
  rfl
 obtain⟨th,tr,q,v,a7,rfl,TT,aO,hok,fF,Z,fin⟩:=h;obtain⟨p,qv,hp,rp,rs,rfl,h1,h2,U,I,B⟩:=aO;obtain⟨aq,mK⟩:=jB TT hok;have cq:=j7 TT hok;have aw:(refs rs).length=rs.length:=w9 _;have bF:rs.length<=100000:=by rw [<-B,w9]at Z;exact Z
 intro ac A outer sh hr;have hu:=z3w hr;refine⟨_,(zc (yI (i:=2) yf.nd rfl (QI rfl) (zQ a hr.m (zm (ixT v0 za) (zb v1 ze))))
  (zc (jY (j:=3) rfl yf.nd rfl (w02 rfl) (CompSc.of (sx:=zi kT) (NX:= ["_law_state","_law_seed","_law_condition","_law_rows","_law_line"]) (fr:= ["_law_condition","_law_state"]) (ix:= [2,0]) rfl rfl (by decide +kernel)) (zR (ixT v0 za)) (λ_ _ _ _ _ _=>(z29 (ji (zQ d hr.m (zb v1 (zm (yw (z00 (K:=K) rfl) v2 za (λ_ _=>rfl)) (zb v0 ze))))))) (λ_ _ _ _ _ _=>v0))
  (zc (kH (z2P (cmT (z7B hu) v3 (zF ze)) (cmT z7D (zp zU v1 za) za))
   (zc (yI (i:=2) yf.nd rfl (QI rfl) (zG (zt zo (zb v2 ze))))
   (zf (seT 3 yf (jk yE rfl T.list qJ (zm (ixT v0 za) ze)))))
   zv)
  (zc (seT 4 yf (zp zn (zp zn (zp zn (zp zn zo (zQ b hr.m (zb v2 ze))) zo) (ixT v0 za)) zo))
  (zf (zr (zG (zZ (zG (zt zo (zb v2 (zm (ixT v0 za) ze)))) (zb v4 (zm (ixT v0 za) (zb v3 ze))))))))))),?_⟩
 generalize hK0:K=K1
 revert K1
 refine jj (by walk_at "cl") ?_;refine !(zh h1 jz (!⟨hp,a7,zd th q,rfl,U,aq,λcv c H1 s1 hc M sz=> ?_⟩));have g1:=s1 _ _ h1;have C:=I.same s1;refine !(zh g1 z0Q ⟨rp,rfl,⟨_,SqL.of C.1⟩,?_⟩);refine z0t (xs:=refs rs) (λi ys H'=>zw H1 H'/\ys=refs ((rs.take i).filter λr=>ev (zd th q) r.2 c)) ⟨zw.refl _,rfl⟩ ?_ ?_ ?_
 ·rintro i ys H' hi ⟨e,rfl⟩;refine⟨SqL.of (e _ _ C.1),zE ?_⟩;have:=qh (λr:Addr×List Int=>ev (zd th q) r.2 c) (rs.take i);rw [w9];rw [wK]at this
  lia
 ·rintro i x ys H' hi ⟨e,rfl⟩;have G:i < rs.length:=by
   have:=(we.mp hi).1
   rwa [aw]at this
  rw [jZ G]at hi;cases hi;have t:=s1.trans e;have aZ:=(C.2 _ (wu G)).2;have hlen:rs[i].2.length=(zd th q).length:=jG TT hok _ (by rw [<-B];exact qe.mpr ⟨_,wu G,rfl⟩);refine !(!(zh (t _ _ h1) jz (!⟨cv,hp,rs[i].1,zd th q,rs[i].2,c,rfl,hc.same e,M,t _ _ U,e _ _ aZ,hlen,by lia,λs l=>!?_⟩)));have ft:=z0J (λr:Addr×List Int=>ev (zd th q) r.2 c) rs (wa G);cases hev:ev (zd th q) rs[i].2 c with
  | true=>
   refine ifT rfl ?_;refine !⟨e.trans l,?_⟩;rw [ft,hev,wY rfl];simp [refs]
  | false=>
   refine ifF rfl ?_;refine⟨e.trans l,?_⟩;rw [ft,hev];simp
 ·rintro ys H' ⟨e,rfl⟩ np ai;rw [aw,qc];refine zg (upd _ np _) rfl ai λH2 J x2=> ?_
  have oY:=yl ai J x2 λr m=>e _ _ (C.2 r (Qf.mp m).1).2
  have s2:=s1.trans (e.trans J);have cJ:=hc.same (e.trans J);have g2:=s2 _ _ h1;have j2:=I.same s2;refine⟨λσ s=>∃(y:V) (c':Cond) (D:Addr) (fs:List (Addr×List Int)),σ= [some (.ref p),some (.int a7),some y,some (.ref D),none]/\zw H s/\zC s c' y/\jA (zd th q) c'/\c'.size<=6/\RowsAt s D fs/\fs.map (·.2)=rowsOf th tr (.pick c' q),?_,?_⟩
  ·refine !⟨(zA rfl),λep R=> ?_⟩;refine zg (upd _ ep _) rfl R λs z x3=> ?_
   refine⟨np,ep,!⟨rfl,SqL.of (z _ _ x2),SqL.of x3,!⟨_,(!(ex2 rfl rfl ⟨(by show(0:Int) < 3;decide),ex2 rfl rfl (!⟨rfl,rfl⟩)⟩)),?_⟩⟩⟩;have l:=s2.trans z;refine yT (λL=> ?_) (λL=> ?_)
   ·rw [qZ]at L;have oZ:(rs.filter λr=>ev (zd th q) r.2 c)= []:=by
     have:=L.1;rw [List.isEmpty_iff]at this;exact List.map_eq_nil_iff.mp this
    refine !⟨(zA rfl),λkp io=> ?_⟩;refine zg (upd _ kp _) rfl io λH4 n4 x4=> ?_
    have o:=l.trans n4;refine !(zh (o _ _ h1) z0Q ⟨rp,!⟨.inl (SqL.of (I.same o).1),λdp u=> ?_⟩⟩);have j4:=I.same o;refine zg (upd _ dp _) rfl u λH5 n X=> ?_
    have cR:=yl u n X λr m=>(j4.2 r m).2
    refine⟨_,.no c,dp,rs,rfl,o.trans n,⟨kp,cv,rfl,n _ _ x4,cJ.same (z.trans (n4.trans n))⟩,M,by simp only [Cond.size];lia,cR,?_⟩
    show _=(rowsOf th tr q).filter λr=>ev (zd th q) r (.no c)
    rw [B,eq_comm,List.filter_eq_self];intro r bM;rw [<-B]at bM;obtain⟨x,hx,rfl⟩:=qe.mp bM;have:=w0V.mp oZ x hx
    show(not (ev (zd th q) x.2 c))=true
    simpa using this
   ·refine⟨_,c,np,!⟨l,cJ.same z,M,by lia,oY.same z,?_⟩⟩;rw [zaG,B]
    rfl
  ·rintro σ s ⟨y,c',D,fs,rfl,l,mB,N,xt,sW,e3⟩;have ls:=k5 cq N;have g3:=l _ _ h1;refine !⟨y,zd th q,c',rfl,mB,N,cq,by lia,by lia,λH4 o=> ?_⟩;have S:=o _ _ g3;refine ex2 rfl rfl ⟨by(walk_at "sl"),ex2 rfl rfl ⟨by(walk_at "sl"),!(zh S j8 (ex2 rfl rfl ⟨by(walk_at "sl"),ex2 rfl rfl ⟨by(walk_at "sl"),?_⟩⟩))⟩⟩;refine !(!(zh S zH ⟨(zA rfl),λqp bB=> ?_⟩));refine zg (upd _ qp _) rfl bB λH5 n X=> ?_
   refine !(!(zh (n _ _ S) jz (!⟨(zA rfl),λsp ao=> ?_⟩)));refine zg (upd _ sp _) rfl ao λH6 n6 x6=> ?_
   have O:=o.trans (n.trans n6);have Y:=l.trans O;exact fin _ c' _ Y ⟨sp,_,hp,D,fs,rfl,x6,⟨qp,y,qv,rfl,n6 _ _ X,mB.same O,h2.same Y⟩,Y _ _ U,sW.same O,e3⟩ N xt
theorem z18{m:Int}(h:0<=m):z1A xs none (some m)=xs.take m.toNat:=by
 unfold z1A;rw [HT.sIx_none,w1b,Nat.sub_zero];have e:HT.sIx xs.length xs.length (some m)=min m.toNat xs.length:=by
  show(if m < 0 then(m + (xs.length:Int)).toNat else min m.toNat xs.length)=_
  rw [wM (by lia)]
 rw [e,List.take_eq_take_iff]
 lia
theorem z96{xs:List Int}{i:Int}(a:∀m∈xs,m∈z0j)(h0:0<=i)(h1:i < (xs.length:Int)):∃m∈z0j,atI (xs.map V.int) i=some (.int m):=by
 obtain⟨h,e⟩:=z7K (xs:=xs.map V.int) h0 (by rw [w9];exact h1);have h':i.toNat < xs.length:=by simpa using h
 refine⟨xs[i.toNat],a _ (wu _),?_⟩;rw [e,List.getElem_map]
noncomputable def z98:List Int:= [9,1,5,3,12,7,0,10 ^ 9]
noncomputable def z9h:List Int:= [4,0,2,3,8,7,10 ^ 9]
theorem zbS:∀m∈z98,m∈z0j:=by decide +kernel
theorem zbr:∀m∈z9h,m∈z0j:=by decide +kernel
theorem zfe:(z98.length:Int)=8:=rfl
theorem zf6:(z9h.length:Int)=7:=rfl
theorem zbJ(i:Int):∃m∈z0j,atI (z98.map V.int) (i % 8)=some (.int m):=z96 zbS (z1g (by decide)).1 (by rw [zfe];exact(z1g (by decide)).2)
theorem zca(i:Int):∃m∈z0j,atI (z9h.map V.int) (i % 7)=some (.int m):=z96 zbr (z1g (by decide)).1 (by rw [zf6];exact(z1g (by decide)).2)
def zfB(a:H0 l0=some (HO.lst [V.int 9,V.int 1,V.int 5,V.int 3,V.int 12,V.int 7,V.int 0,V.int ((10:Int) ^ (9:Int).toNat)])):H0 l0=some (.lst (z98.map V.int)):=a
def zfO(a:H0 l0=some (HO.lst [V.int 4,V.int 0,V.int 2,V.int 3,V.int 8,V.int 7,V.int ((10:Int) ^ (9:Int).toNat)])):H0 l0=some (.lst (z9h.map V.int)):=a
theorem z5k:∀m∈z0j,0<=m:=by decide +kernel
def z6P{m:Int}(h:m∈z0j):zbQ (.int m) (toString m):= .inl ⟨m,rfl,(z09 m h).2,rfl⟩
inductive spHeaded (K:W.Frag) (vs:List V) (H:Hp) (Q:VK) (E:XK):Prop
 | mk:∀th tr q v a7,vs= [v,.int a7]->yL th tr H v q->(zx q).length<=4000000->(∀(v':V) (q':Qn) (H':Hp),zw H H'->yL th tr H' v' q'->(∃n∈z0j,q'= .first n q\/∃m∈z0j,q'= .first m (.first n q))->Q v' H')->spHeaded K vs H Q E
def z5i(n:Nat)(h:RowsAt H rp rs):∀r∈rs.take n,H r.1=some (.lst (r.2.map V.int)):=λr m=>(h.2 r (Qy m)).2
theorem jn:FnScope ["_law_state","_law_seed","_law_many","_law_line","_law_question","_law_rows","_law_more"] ["_law_state","_law_seed"] (zi z0X):=by walk_at "s"
theorem z4n(F:Fun K "_law_headed" "_law_headed" z0X f fd)(T:Txt K mg):FnOk P w K mg base CX0 1 f fd ["_law_state","_law_seed"] (spHeaded K):=by
 refine F.okB jn (λvs H Q E h=> ?_) (λvs H Q E h=> ?_)
 ·obtain⟨th,tr,q,v,a7,rfl,_⟩:=h
  rfl
 obtain⟨th,tr,q,v,a7,rfl,aO,fF,fin⟩:=h;obtain⟨p,qv,hp,rp,rs,rfl,h1,h2,B,h4,h5⟩:=aO;obtain⟨m,b,e1⟩:=zbJ (a7 / 2);obtain⟨d,e,Y⟩:=zca (a7 / 16 + a7);have ll:=(z09 m b).1;have DO:=(z09 d e).1;have p0:=z5k m b;have xu:=z5k d e;intro ac A outer sh hr;refine⟨_,(zc (seT 2 jn (ixL (zF (zt za (zt za (zt za (zt za (zt za (zt za (zt za (yo (z40 ⟨by decide,by decide,by decide⟩) ze))))))))) (zp zU (zp yc v1 za) za)))
  (zc (seT 3 jn (zp zn (zp zn (zp zn (zp zn zo (jk z1Z rfl T.str Qd (zb v2 ze))) zo) (ixT v0 za)) zo))
  (zc (seT 4 jn (zG (zt zo (zb v2 (zm (ixT v0 za) ze)))))
  (zc (seT 5 jn (jr yF (ixT v0 za) jX (jH v2)))
  (zc (zD (cmT zM (zp zU v1 za) za)
   (zc (seT 6 jn (ixL (zF (zt za (zt za (zt za (zt za (zt za (zt za (yo (z40 ⟨by decide,by decide,by decide⟩) ze)))))))) (zp zU (zp yy (zp yc v1 za) v1) za)))
   (zc (seT 3 jn (zp zn (zp zn (zp zn (zp zn zo (jk z1Z rfl T.str Qd (zb (pv 6) ze))) zo) v3) zo))
   (zc (seT 4 jn (zG (zt zo (zb (pv 6) (zb v4 ze)))))
   (zf (seT 5 jn (jr yF v5 jX (jH (pv 6))))))))
   zv)
  (zf (zr (zG (zb v4 (zb v3 (zm (ixT v0 za) (zb v5 ze)))))))))))),?_⟩
 generalize hK0:K=K1
 revert K1
 refine jj (by walk_at "cl") ?_;refine⟨(zA rfl),λl0 f0=> ?_⟩;refine zg (upd _ l0 _) rfl f0 λH0 l i=> ?_
 replace i:=zfB i;refine !(ex2 rfl rfl ⟨⟨by decide,by decide⟩,ex2 rfl rfl ⟨(by show(0:Int) < 8;decide),zu i e1 ?_⟩⟩);refine !⟨_,!⟨z6P b,ex2 rfl rfl ⟨by(walk_at "sl"),ex2 rfl rfl ⟨by(walk_at "sl"),!(zh (l _ _ h1) j8 (ex2 rfl rfl ⟨by(walk_at "sl"),ex2 rfl rfl ⟨by(walk_at "sl"),?_⟩⟩))⟩⟩⟩⟩;refine !(!(zh (l _ _ h1) zH ⟨(zA rfl),λn f1=> ?_⟩));refine zg (upd _ n _) rfl f1 λH1 n1 x1=> ?_
 have s1:=l.trans n1;have y:=h4.same s1;refine !(zh (s1 _ _ h1) z0Q (!(!⟨rp,!⟨SqL.of y.1,λr2 f2=> ?_⟩⟩)));rw [z18 p0,<-QJ];refine zg (upd _ r2 _) rfl f2 λH2 j S=> ?_
 have s2:=s1.trans j;have w2:=yl f2 j S (z5i _ y);have D:QAt H2 (.first m q) (.ref n):=⟨n,qv,rfl,j _ _ x1,h2.same s2⟩;have J:(rs.take m.toNat).map (·.2)=rowsOf th tr (.first m q):=by
  rw [QJ,h5]
  rfl
 have fc:(zx (.first m q)).length<=4000100:=by simp only [zx];(walk_at "sl")
 refine !(ex2 rfl rfl ⟨(by show(0:Int) < 2;decide),rfl,!?_⟩);refine yT (λM=> ?_) (λM=> ?_)
 ·refine⟨(zA rfl),λR f3=> ?_⟩;refine zg (upd _ R _) rfl f3 λH3 n3 r=> ?_
  replace r:=zfO r;refine !(ex2 rfl rfl ⟨⟨by decide,by decide⟩,!(ex2 rfl rfl (ex2 rfl rfl ⟨(by show(0:Int) < 7;decide),zu r Y ?_⟩))⟩);refine !⟨_,!⟨z6P e,ex2 rfl rfl ⟨by(walk_at "sl"),ex2 rfl rfl ⟨by(walk_at "sl"),!⟨_,(zx (.first m q)),rfl,rfl,by(walk_at "sl"),ex2 rfl rfl ⟨by(walk_at "sl"),?_⟩⟩⟩⟩⟩⟩;refine !(!⟨(zA rfl),λI N=> ?_⟩);refine zg (upd _ I _) rfl N λH4 X x4=> ?_
  have L:=n3.trans X;have G:=w2.same L;refine !(!(!⟨r2,!⟨SqL.of G.1,λx C=> ?_⟩⟩));rw [z18 xu,<-QJ];refine zg (upd _ x _) rfl C λH5 s Z=> ?_
  have O:=yl C s Z (z5i _ G);have u:=L.trans s;have z:=s2.trans u;refine !(!(!(zh (z _ _ h1) jz (!⟨(zA rfl),λsp o=> ?_⟩))));refine zg (upd _ sp _) rfl o λU a t=> ?_
  have c:=z.trans a;refine fin _ (.first d (.first m q)) _ c ⟨sp,_,hp,x,!⟨t,⟨I,!⟨a _ _ (s _ _ x4),D.same (u.trans a)⟩⟩,c _ _ B,O.same a,?_⟩⟩ ⟨m,b,.inr ⟨d,e,rfl⟩⟩;rw [QJ,J]
  rfl
 ·refine !(!(!(zh (s2 _ _ h1) jz (!⟨(zA rfl),λsp o=> ?_⟩))));refine zg (upd _ sp _) rfl o λU a t=> ?_
  have c:=s2.trans a;exact fin _ (.first m q) _ c ⟨sp,_,hp,r2,!⟨t,D.same a,c _ _ B,w2.same a,J⟩⟩ ⟨m,b,.inl rfl⟩
variable{gs:List (Addr×List Int)}
theorem z9a{sp d hp x y:Addr}{a b:Qn}{c:V}{fs:List (Addr×List Int)}(s:zw H H')(f:H' sp=some (.tup [.ref d,.str (zx (.both a b)),.ref hp,.ref np]))(h:H' d=some (.tup [.str "both",qv,c]))(h1:QAt H' a qv)(h2:QAt H' b c)
  (e:H' hp=some (.lst ((zd th a).map V.str))) (hr:RowsAt H' np (fs ++ gs)) (j:fs.map (·.2)=rowsOf th tr a) (i:gs.map (·.2)=rowsOf th tr b):yL th tr H' (.ref sp) (.both a b):=
 ⟨sp,_,hp,np,!⟨f,⟨d,qv,c,rfl,h,h1,h2⟩,e,hr,by rw [wD,j,i];rfl⟩⟩
theorem z73{a b:Addr}{fs:List (Addr×List Int)}(c:H np=none)(n:zw H H')(x:H' np=some (.lst (refs fs ++ refs gs)))(h1:RowsAt H a fs)(h2:RowsAt H b gs):RowsAt H' np (fs ++ gs):=
 yl c n (by rw [x];simp [refs]) λr m=>by
  rcases wB.mp m with m | m
  ·exact(h1.2 r m).2
  ·exact(h2.2 r m).2
theorem z4w(b:∀s∈zd th q,s.length<=10)(a:jA (zd th q) c)(sz:c.size<=6):(zx (.pick c q)).length<=(zx q).length + 1000:=by
 have ls:=k5 b a;simp only [zx]
 (walk_at "sl")
inductive spDoubled (K:W.Frag) (vs:List V) (H:Hp) (Q:VK) (E:XK):Prop
 | mk:∀th tr q v a7,vs= [v,.int a7]->TabOk th tr->yL th tr H v q->okQ th q->(zx q).length<=4000000->(rowsOf th tr q).length<=100000->(∀(v':V) (q':Qn) (c:Cond) (H':Hp),zw H H'->yL th tr H' v' q'->jA (zd th q) c->c.size<=6->(q'= .both q (.pick c q)\/q'= .both (.pick c q) q)->Q v' H')->spDoubled K vs H Q E
theorem jU:FnScope ["_law_state","_law_seed","_law_one","_law_other","_law_line"] ["_law_state","_law_seed"] (zi z0D):=by walk_at "s"
theorem z3J(F:Fun K "_law_doubled" "_law_doubled" z0D f fd)(T:Txt K mg)(a:Kn P w K mg base 8 "_law_picked" ["_law_state","_law_seed"] (spPicked K)):FnOk P w K mg base CX0 9 f fd ["_law_state","_law_seed"] (spDoubled K):=by
 refine F.okB jU (λvs H Q E h=> ?_) (λvs H Q E h=> ?_)
 ·obtain⟨th,tr,q,v,a7,rfl,_⟩:=h
  rfl
 obtain⟨th,tr,q,v,a7,rfl,TT,C,hok,S,l,fin⟩:=h;have U:=j7 TT hok;intro ac A outer sh hr;refine⟨_,(zc (seT 2 jU v0)
  (zc (seT 3 jU (zQ a hr.m (zb v0 (zb v1 ze))))
  (zc (kH (cmT zM (zp zU (zp yc v1 za) za) za)
   (zc (seT 2 jU v3)
   (zf (seT 3 jU v0)))
   zv)
  (zc (seT 4 jU (zp zn (zp zn (zp zn (zp zn zo (ixT v2 za)) zo) (ixT v3 za)) zo))
  (zf (zr (zG (zZ (zG (zt zo (zm (ixT v2 za) (zm (ixT v3 za) ze)))) (zb v4 (zm (ixT v0 za) (yo (zp kC (ixT v2 za) (ixT v3 za)) ze))))))))))),?_⟩
 generalize hK0:K=K1
 revert K1
 refine jj (by walk_at "cl") ?_;refine !?_;refine !(!⟨th,tr,q,v,a7,rfl,TT,C,hok,S,l,λv1 c H1 s1 i u sz=> ?_⟩);have s:=C.same s1;have lp:=z4w U u sz;have rl:(rowsOf th tr (.pick c q)).length<=100000:=wP (qh _ _) l;have eh:zd th (.pick c q)=zd th q:=rfl;refine⟨λσ G=>∃(r tv:V) (d e:Qn),σ= [some v,some (.int a7),some r,some tv,none]/\G=H1/\yL th tr H1 r d/\yL th tr H1 tv e/\(zx d).length<=4001000/\(zx e).length<=4001000/\(rowsOf th tr d).length<=100000/\(rowsOf th tr e).length<=100000/\zd th d=zd th q/\((d=q/\e= .pick c q)\/(d= .pick c q/\e=q)),?_,?_⟩
 ·refine !(ex2 rfl rfl ⟨⟨by decide,by decide⟩,ex2 rfl rfl ⟨(by show(0:Int) < 2;decide),rfl,!?_⟩⟩);refine yT (λL=> ?_) (λL=> ?_)
  ·refine !?_;refine !?_;exact⟨_,_,ex2 rfl rfl ⟨i,s,by lia,by lia,rl,l,eh,.inr ⟨rfl,rfl⟩⟩⟩
  ·exact⟨_,_,ex2 rfl rfl ⟨s,i,by lia,by lia,l,rl,rfl,.inl ⟨rfl,rfl⟩⟩⟩
 ·rintro σ G ⟨r,tv,d,e,rfl,rfl,Z,N,lo,lt,J,rt,eo,hq⟩;obtain⟨p,qv,hp,rp,rs,rfl,h1,h2,Y,h4,h5⟩:=s;obtain⟨p1,h9,aL,cR,az,rfl,a1,a2,a3,B,D⟩:=Z;obtain⟨p2,bT,aU,dh,aN,rfl,b1,b2,b3,t,z⟩:=N;have l1:az.length<=100000:=by rw [<-D,w9]at J;exact J
  have l2:aN.length<=100000:=by rw [<-z,w9]at rt;exact rt
  refine !(zh a1 j8 (ex2 rfl rfl ⟨by(walk_at "sl"),ex2 rfl rfl ⟨by(walk_at "sl"),!(zh b1 j8 (ex2 rfl rfl ⟨by(walk_at "sl"),ex2 rfl rfl ⟨by(walk_at "sl"),?_⟩⟩))⟩⟩));refine !(zh a1 zH (!(zh b1 zH ⟨(zA rfl),λX R=> ?_⟩)));refine zg (upd _ X _) rfl R λH5 b x5=> ?_
  refine !(!(zh (b _ _ h1) jz (!(zh (b _ _ a1) z0Q (!(zh (b _ _ b1) z0Q ⟨_,_,ex2 rfl rfl ⟨b _ _ B.1,b _ _ t.1,jb (by rw [w9,w9];lia),λnp I=> ?_⟩⟩))))));refine zg (upd _ np _) rfl I λH6 n x6=> ?_
  have M:=z73 I n x6 (B.same b) (t.same b);refine⟨(zA rfl),λsp O=> ?_⟩;refine zg (upd _ sp _) rfl O λH7 o x7=> ?_
  have j:=b.trans (n.trans o);refine fin _ (.both d e) c _ (s1.trans j) (z9a (x:=p) (y:=p) j x7 (o _ _ (n _ _ x5)) (a2.same j) (b2.same j) (by rw [eo];exact j _ _ Y) (M.same o) D z) u sz ?_;rcases hq with⟨rfl,rfl⟩ | ⟨rfl,rfl⟩
  ·exact .inl rfl
  ·exact .inr rfl
def TabAt(th:Str->List Str)(tr:Str->List (List Int))(H:Hp)(v:V)(n:Str):Prop:=∃(p hp rp:Addr) (rs:List (Addr×List Int)),v= .ref p/\H p=some (.tup [.str n,.ref hp,.ref rp])/\
 H hp=some (.lst ((th n).map V.str))/\RowsAt H rp rs/\rs.map (·.2)=tr n
theorem TabAt.same{v:V}(h:TabAt th tr H v n)(e:zw H H'):TabAt th tr H' v n:=by
 obtain⟨p,hp,rp,rs,rfl,h1,c,b,a⟩:=h;exact⟨p,hp,rp,rs,rfl,e _ _ h1,e _ _ c,b.same e,a⟩
inductive spBeside (K:W.Frag) (vs:List V) (H:Hp) (Q:VK) (E:XK):Prop
 | mk:∀th tr q n v tv a7,vs= [v,tv,.int a7]->yL th tr H v q->TabAt th tr H tv n->zd th q=th n->n.length<=10->(zx q).length<=4000000->(rowsOf th tr q).length<=100000->(tr n).length<=100000->(∀(v':V) (q':Qn) (H':Hp),zw H H'->yL th tr H' v' q'->(q'= .both q (.table n)\/q'= .both (.table n) q)->Q v' H')->spBeside K vs H Q E
theorem yk:FnScope ["_law_state","_law_table","_law_seed","_law_one","_law_other","_law_line"] ["_law_state","_law_table","_law_seed"] (zi z14):=by walk_at "s"
theorem z4J(F:Fun K "_law_beside" "_law_beside" z14 f fd)(T:Txt K mg):FnOk P w K mg base CX0 1 f fd ["_law_state","_law_table","_law_seed"] (spBeside K):=by
 refine F.okB yk (λvs H Q E h=> ?_) (λvs H Q E h=> ?_)
 ·obtain⟨th,tr,q,n,v,tv,a7,rfl,_⟩:=h
  rfl
 obtain⟨th,tr,q,n,v,tv,a7,rfl,aO,ht,xv,Y,fF,G,C,fin⟩:=h;obtain⟨tp,mM,iN,Z,rfl,U,t3,t4,t5⟩:=ht;intro ac A outer sh hr;refine⟨_,(zc (seT 3 yk v0)
  (zc (seT 4 yk (zG (zZ (zG (zt zo (zm (ixT v1 za) ze))) (zm (ixT v1 za) (zm (ixT v1 za) (zm (ixT v1 za) ze))))))
  (zc (kH (cmT zM (zp zU (zp yc v2 za) za) za)
   (zc (seT 3 yk v4)
   (zf (seT 4 yk v0)))
   zv)
  (zc (seT 5 yk (zp zn (zp zn (zp zn (zp zn zo (ixT v3 za)) zo) (ixT v4 za)) zo))
  (zf (zr (zG (zZ (zG (zt zo (zm (ixT v3 za) (zm (ixT v4 za) ze)))) (zb v5 (zm (ixT v0 za) (yo (zp kC (ixT v3 za) (ixT v4 za)) ze))))))))))),?_⟩
 generalize hK0:K=K1
 revert K1
 refine jj (by walk_at "cl") ?_;refine !?_;refine !(zh U zH ⟨(zA rfl),λM bB=> ?_⟩);refine zg (upd _ M _) rfl bB λH1 N x1=> ?_
 have s:=N _ _ U;refine !(zh s zH (!(zh s j8 (!(zh s jz ⟨(zA rfl),λc i=> ?_⟩)))));refine zg (upd _ c _) rfl i λH2 B x2=> ?_
 have s2:=N.trans B;have I:yL th tr H2 (.ref c) (.table n):=⟨c,_,mM,iN,Z,rfl,x2,⟨M,rfl,B _ _ x1⟩,s2 _ _ t3,t4.same s2,t5⟩;have z:=aO.same s2;have DP:(zx (.table n)).length<=10:=Y;refine⟨λσ R=>∃(u r:V) (b d:Qn),σ= [some v,some (.ref tp),some (.int a7),some u,some r,none]/\R=H2/\yL th tr H2 u b/\yL th tr H2 r d/\(zx b).length<=4000000/\(zx d).length<=4000000/\(rowsOf th tr b).length<=100000/\(rowsOf th tr d).length<=100000/\zd th b=zd th q/\((b=q/\d= .table n)\/(b= .table n/\d=q)),?_,?_⟩
 ·refine !(ex2 rfl rfl ⟨⟨by decide,by decide⟩,ex2 rfl rfl ⟨(by show(0:Int) < 2;decide),rfl,!?_⟩⟩);refine yT (λhb=> ?_) (λhb=> ?_)
  ·refine !?_;refine !?_;exact⟨_,_,ex2 rfl rfl ⟨I,z,by lia,by lia,C,G,xv.symm,.inr ⟨rfl,rfl⟩⟩⟩
  ·exact⟨_,_,ex2 rfl rfl ⟨z,I,by lia,by lia,G,C,rfl,.inl ⟨rfl,rfl⟩⟩⟩
 ·rintro σ R ⟨u,r,b,d,rfl,rfl,pc,pd,lo,lt,X,rt,eo,hq⟩;obtain⟨p,qv,hp,rp,rs,rfl,h1,h2,h3,h4,h5⟩:=z;obtain⟨p1,h9,aL,cR,az,rfl,a1,a2,a3,L,O⟩:=pc;obtain⟨p2,bT,aU,dh,aN,rfl,b1,b2,b3,D,J⟩:=pd;have l1:az.length<=100000:=by rw [<-O,w9]at X;exact X
  have l2:aN.length<=100000:=by rw [<-J,w9]at rt;exact rt
  refine !(zh a1 j8 (ex2 rfl rfl ⟨by(walk_at "sl"),ex2 rfl rfl ⟨by(walk_at "sl"),!(zh b1 j8 (ex2 rfl rfl ⟨by(walk_at "sl"),ex2 rfl rfl ⟨by(walk_at "sl"),?_⟩⟩))⟩⟩));refine !(zh a1 zH (!(zh b1 zH ⟨(zA rfl),λo e=> ?_⟩)));refine zg (upd _ o _) rfl e λH5 a x5=> ?_
  refine !(!(zh (a _ _ h1) jz (!(zh (a _ _ a1) z0Q (!(zh (a _ _ b1) z0Q ⟨_,_,ex2 rfl rfl ⟨a _ _ L.1,a _ _ D.1,jb (by rw [w9,w9];lia),λnp S=> ?_⟩⟩))))));refine zg (upd _ np _) rfl S λH6 l x6=> ?_
  have rc:=z73 S l x6 (L.same a) (D.same a);refine⟨(zA rfl),λsp ao=> ?_⟩;refine zg (upd _ sp _) rfl ao λH7 t x7=> ?_
  have j:=a.trans (l.trans t);refine fin _ (.both b d) _ (s2.trans j) (z9a (x:=p) (y:=p) j x7 (t _ _ (l _ _ x5)) (a2.same j) (b2.same j) (by rw [eo];exact j _ _ h3) (rc.same t) O J) ?_;rcases hq with⟨rfl,rfl⟩ | ⟨rfl,rfl⟩
  ·exact .inl rfl
  ·exact .inr rfl
theorem z1p(h:i < rs.length):(rs.map (·.2))[i]? =some rs[i].2:=by
 rw [wF,wa h]
 rfl
theorem z2L(h:i < rs.length):(rs.map (·.2)).getD i []=rs[i].2:=by
 rw [wb,z1p h]
 rfl
theorem z6H{m:Int}(h:0<=m):z1A xs (some m) none=xs.drop m.toNat:=by
 unfold z1A;rw [HT.sIx_none];have e:HT.sIx xs.length 0 (some m)=min m.toNat xs.length:=by
  show(if m < 0 then(m + (xs.length:Int)).toNat else min m.toNat xs.length)=_
  rw [wM (by lia)]
 rw [e];by_cases hm:m.toNat<=xs.length
 ·rw [Nat.min_eq_left hm,qS (by rw [w0R];lia)]
 ·rw [Nat.min_eq_right (by lia),List.drop_of_length_le (ww _),List.drop_of_length_le (by lia),List.take_nil]
theorem z6G(hs:List α)(t:Nat):(hs.drop t ++ hs.take t).Perm hs:=by
 have:=List.perm_append_comm (l₁:=hs.drop t) (l₂:=hs.take t)
 rwa [List.take_append_drop]at this
theorem za5(h:∀n∈ns,n.length<=10):(ns.map (·.length)).sum<=10 * ns.length:=by
 induction ns with
 | nil=>exact ww _
 | cons n ns a=>
  have h1:=h n qy;have h2:=a λm hm=>h m (wX _ hm)
  rw [qC,List.sum_cons,wN]
  lia
theorem z4d:∀{ns:List Str},(∀n∈ns,n.length<=10)->(Str.join " " ns).length<=11 * ns.length
 | [],_=>by simp [Str.join];decide
 | [n],h=>by
  have:=h n qy;simp only [Str.join,wS]
  lia
 | n :: m :: ns,h=>by
  have h1:=h n qy;have h2:=z4d (ns:=m :: ns) λx a=>h x (wX _ a)
  simp only [Str.join,w17,z1t];have e:(n :: m :: ns).length=(m :: ns).length + 1:=rfl
  lia
inductive spColumns (K:W.Frag) (vs:List V) (H:Hp) (Q:VK) (E:XK):Prop
 | mk:∀th tr q v a7,vs= [v,.int a7]->TabOk th tr->yL th tr H v q->okQ th q->(zx q).length<=4000000->(rowsOf th tr q).length<=100000->(zd th q).length<=1000->(∀(v':V) (ns:List Str) (H':Hp),zw H H'->yL th tr H' v' (.cols ns q)->ns≠ []->ns.Nodup->(∀n∈ns,n∈zd th q)->Q v' H')->spColumns K vs H Q E
theorem jE:FnScope ["_law_state","_law_seed","_law_turn","_law_names","_law_spots","_law_rows","_law_line"] ["_law_state","_law_seed"] (zi yh):=by walk_at "s"
theorem z3W(F:Fun K "_law_columns" "_law_columns" yh f fd)(T:Txt K mg):FnOk P w K mg base CX0 1 f fd ["_law_state","_law_seed"] (spColumns K):=by
 refine F.okB jE (λvs H Q E h=> ?_) (λvs H Q E h=> ?_)
 ·obtain⟨th,tr,q,v,a7,rfl,_⟩:=h
  rfl
 obtain⟨th,tr,q,v,a7,rfl,TT,aO,hok,fF,aY,gi,fin⟩:=h;obtain⟨p,qv,hp,rp,rs,rfl,h1,h2,C,h4,h5⟩:=aO;obtain⟨aq,mK⟩:=jB TT hok;have cq:=j7 TT hok;have bF:=jG TT hok;have aw:(refs rs).length=rs.length:=w9 _;have t6:rs.length<=100000:=by rw [<-h5,w9]at aY;exact aY
 generalize hhs:zd th q=hs at *;have hlen:(0:Int) < (((hs.map V.str).length:Nat):Int):=by
  have:=QR.mpr aq;rw [w9];lia
 intro ac A outer sh hr;refine⟨_,(zc (seT 2 jE (zp zU v1 (leN T.len (zm (ixT v0 za) ze))))
  (zc (seT 3 jE (zp kC (jr yF (ixT v0 za) (jH v2) jX) (jr yF (ixT v0 za) jX (jH v2))))
  (zc (kH (z2P (cmT zM (zp zU (zp yc v1 za) za) za) (cmT z7D (leN T.len (zb v3 ze)) za))
   (zf (seT 3 jE (jr yF v3 (jH za) jX)))
   zv)
  (zc (yI (i:=4) jE.nd rfl (QI rfl) (jC rfl (CompSc.of (sx:=zi yh) (NX:= ["_law_state","_law_seed","_law_turn","_law_names","_law_spots","_law_rows","_law_line"]) (fr:= ["_law_state"]) (ix:= [0]) rfl rfl (by decide +kernel)) (zR v3) (λ_ _ _ _ _ _=>jg) (λ_ _ _ _ _ _=>(zc6 (K:=K) rfl wU qB qE (z5p (K:=K) rfl) (yw (z00 (K:=K) rfl) v1 za (λ_ _=>rfl)) (zb v0 ze)))))
  (zc (jY (j:=5) rfl jE.nd rfl (w02 rfl) (CompSc.of (sx:=zi yh) (NX:= ["_law_state","_law_seed","_law_turn","_law_names","_law_spots","_law_rows","_law_line"]) (fr:= ["_law_spots"]) (ix:= [4]) rfl rfl (by decide +kernel)) (zR (ixT v0 za)) (λ_ _ _ _ _ _=>jg) (λ_ _ _ _ _ _=>(jC rfl (CompSc.of2 (sx:=zi yh) (NX:= ["_law_row","_law_spots"]) (fr:= ["_law_row"]) (ix:= [0]) rfl rfl (by decide +kernel)) (z7E (K:=K) rfl v1) (λ_ _ _ _ _ _=>jg) (λ_ _ _ _ _ _=>(yw (yz (K:=K) rfl) v1 v0 (λ_ _=>rfl))))))
  (zc (seT 6 jE (zp zn (zp zn (zp zn (zp zn zo (ky PySem.F.plainAttrs_str PySem.F.slot_str_join PySem.F.type_str_join z9p zo (zb v3 ze))) zo) (ixT v0 za)) zo))
  (zf (zr (zG (zZ (zG (zt zo (zO (jk z0T rfl T.tuple Qv (zb v3 ze)) (zm (ixT v0 za) ze)))) (zb (pv 6) (zb v3 (zb v5 ze))))))))))))),?_⟩
 generalize hK0:K=K1
 revert K1
 refine jj (by walk_at "cl") ?_;refine !(!(zh h1 jz ⟨hp,!⟨.inl (SqL.of C),ex2 rfl rfl ⟨hlen,?_⟩⟩⟩));obtain⟨Z,t1⟩:=z1g (i:=a7) hlen;obtain⟨tn,xw⟩:∃tn,a7 % (((hs.map V.str).length:Nat):Int)=tn:=⟨_,rfl⟩
 dsimp -proj only;rw [xw]at Z t1 ⊢;refine !(zh h1 jz (!(!⟨hp,!⟨SqL.of C,λl1 f1=> ?_⟩⟩)));rw [z6H Z,<-List.map_drop];refine zg (upd _ l1 _) rfl f1 λH1 Y x1=> ?_
 refine !(zh (Y _ _ h1) jz (!(!⟨hp,!⟨SqL.of (Y _ _ C),λl2 f2=> ?_⟩⟩)));rw [z18 Z,<-QJ];refine zg (upd _ l2 _) rfl f2 λH2 n2 x2=> ?_
 refine⟨_,_,ex2 rfl rfl ⟨n2 _ _ x1,x2,jb (by rw [w9,w9,w0R,wK];lia),λy f3=> ?_⟩⟩;rw [<-wD];refine zg (upd _ y _) rfl f3 λH3 n3 G=> ?_
 have pm:=z6G hs tn.toNat
 have J:(hs.drop tn.toNat ++ hs.take tn.toNat).length=hs.length:=pm.length_eq;have e:(hs.drop tn.toNat ++ hs.take tn.toNat).Nodup:=pm.nodup_iff.mpr mK;have a:∀n∈hs.drop tn.toNat ++ hs.take tn.toNat,n∈hs:=λn hn=>pm.mem_iff.mp hn
 generalize hs.drop tn.toNat ++ hs.take tn.toNat=ns0 at G J e a;have s3:=Y.trans (n2.trans n3);refine⟨λσ l=>∃(np:Addr) (ns:List Str),σ= [some (.ref p),some (.int a7),some (.int tn),some (.ref np),none,none,none]/\zw H l/\l np=some (.lst (ns.map V.str))/\ns≠ []/\ns.Nodup/\(∀n∈ns,n∈hs)/\ns.length<=1000,?_,?_⟩
 ·refine !(ex2 rfl rfl ⟨⟨by decide,by decide⟩,ex2 rfl rfl ⟨(by show(0:Int) < 3;decide),rfl,!⟨_,(!⟨y,!⟨.inl (SqL.of G),ex2 rfl rfl (!⟨rfl,rfl⟩)⟩⟩),?_⟩⟩⟩);refine yT (λM=> ?_) (λM=> ?_)
  ·rw [qZ]at M;have eU:=qA M.2;rw [w9]at eU;refine !⟨1,rfl,y,!⟨SqL.of G,λl4 f4=> ?_⟩⟩;rw [z6H (by decide),<-List.map_drop];refine zg (upd _ l4 _) rfl f4 λl n4 d=> ?_
   refine⟨l4,ns0.drop 1,rfl,s3.trans n4,d,λz=> ?_,e.sublist (List.drop_sublist _ _),λn hn=>a n (List.mem_of_mem_drop hn),by rw [w0R];lia⟩;have:=Q6 List.length z;rw [w0R]at this;simp at this
   lia
  ·refine⟨y,ns0,rfl,s3,G,λz=> ?_,e,a,by lia⟩;rw [z]at J;exact aq (QL.mp J.symm)
 ·rintro σ l ⟨np,ns,rfl,I,d,xx,e,a,xy⟩;have iP:∀n∈ns,n.length<=10:=λn hn=>cq n (a n hn)
  refine !⟨np,rfl,⟨_,SqL.of d⟩,?_⟩;refine ja (xs:=ns.map V.str) (λi ys H'=>zw l H'/\ys=(ns.take i).map λn=>V.int ((hs.idxOf n:Nat):Int)) ⟨zw.refl _,rfl⟩ ?_ ?_ ?_
  ·rintro i ys H' hi ⟨b,rfl⟩;exact⟨SqL.of (b _ _ d),zE (by rw [w9,wK];lia)⟩
  ·rintro i x ys H' hi ⟨b,rfl⟩;have X:i < ns.length:=by
    have:=(we.mp hi).1
    rwa [w9]at this
   rw [wF,wa X]at hi;cases hi;have dQ:=jh (a _ (wu X));have g3:=(I.trans b) _ _ C;refine !(zh ((I.trans b) _ _ h1) jz ⟨.inl ⟨rfl,_,SqL.of g3⟩,!⟨hp,_,_,hs.idxOf ns[i],rfl,rfl,SqL.of g3,rfl,zT hs,dQ.1,dQ.2,b,?_⟩⟩);rw [wQ,wa X,wD]
   rfl
  ·rintro ys H' ⟨b,rfl⟩ sp ao;rw [w9,qc];refine zg (upd _ sp _) rfl ao λH5 n5 x5=> ?_
   have s5:=I.trans (b.trans n5);have j5:=h4.same s5;refine !(zh (s5 _ _ h1) z0Q ⟨rp,rfl,⟨_,SqL.of j5.1⟩,?_⟩);refine ja (xs:=refs rs) (λi ys H'=>zw H5 H'/\∃qs:List (Addr×List Int),ys=refs qs/\qs.length=i/\(∀r∈qs,H' r.1=some (.lst (r.2.map V.int)))/\qs.map (·.2)=((rs.map (·.2)).take i).map λr=>ns.map λn=>r.getD (hs.idxOf n) 0) ⟨zw.refl _,[],rfl,rfl,λ_ z=>(by cases z),rfl⟩ ?_ ?_ ?_
   ·rintro i ys U hi ⟨c,qs,rfl,hq,_,_⟩;rw [aw]at hi;exact⟨SqL.of (c _ _ j5.1),zE (by rw [w9];lia)⟩
   ·rintro i x ys U hi ⟨c,qs,rfl,hq,O,B⟩;have D:i < rs.length:=by
     have:=(we.mp hi).1
     rwa [aw]at this
    rw [jZ D]at hi;cases hi;have aZ:=(j5.2 _ (wu D)).2;have dU:rs[i].2.length=hs.length:=bF _ (by rw [<-h5];exact qe.mpr ⟨_,wu D,rfl⟩);refine !⟨sp,rfl,⟨_,SqL.of (c _ _ x5)⟩,?_⟩;refine ja (xs:=ns.map λn=>V.int ((hs.idxOf n:Nat):Int)) (λm ys H'=>H'=U/\ys=((ns.take m).map λn=>rs[i].2.getD (hs.idxOf n) 0).map V.int) ⟨rfl,rfl⟩ ?_ ?_ ?_
    ·rintro m ys S hm ⟨rfl,rfl⟩;exact⟨SqL.of (c _ _ x5),zE (by rw [w9,w9,wK];lia)⟩
    ·rintro m x ys S hm ⟨rfl,rfl⟩;have pe:m < ns.length:=by
      have:=(we.mp hm).1
      rwa [w9]at this
     rw [wF,wa pe]at hm;cases hm;have bj:hs.idxOf ns[m] < rs[i].2.length:=by rw [dU];exact qz.mpr (a _ (wu pe))
     refine !(!(zu (c _ _ aZ) (zW (int_at bj)) ⟨rfl,?_⟩));rw [wQ,wa pe,wD,wD]
     rfl
    ·rintro ys S ⟨rfl,rfl⟩ lp aX;rw [w9,qc];have s:=zB aX (.lst ((ns.map λn=>rs[i].2.getD (hs.idxOf n) 0).map V.int));refine⟨c.trans s,qs ++ [(lp,ns.map λn=>rs[i].2.getD (hs.idxOf n) 0)],by simp [refs],by rw [wg,hq];rfl,λr m=> ?_,?_⟩
     ·rcases wB.mp m with m | m
      ·exact s _ _ (O r m)
      ·rw [wx.mp m];exact zj
     ·rw [wD,B,wQ,z1p D,wD]
      rfl
   ·rintro ys U ⟨c,qs,rfl,hq,O,B⟩ wp c9;rw [aw,show(rs.map (·.2)).take rs.length=rs.map (·.2)from qS (by rw [w9];exact ww _)]at B;refine zg (upd _ wp _) rfl c9 λS n7 x7=> ?_
    have w7:=yl c9 n7 x7 O;have xz:=c.trans n7;have u:=b.trans (n5.trans xz);have L:=I.trans u;have jl:=z4d iP;have sl:=za5 iP;refine⟨rfl,!⟨_,np,ns,rfl,rfl,SqL.of (u _ _ d),by rw [z1t];lia,ex2 rfl rfl ⟨by(walk_at "sl"),ex2 rfl rfl ⟨by(walk_at "sl"),!(zh (L _ _ h1) j8 (ex2 rfl rfl ⟨by(walk_at "sl"),ex2 rfl rfl ⟨by(walk_at "sl"),?_⟩⟩))⟩⟩⟩⟩;refine !⟨np,!(.inl ⟨SqL.of (u _ _ d),λtp aD=> ?_⟩)⟩;refine zg (upd _ tp _) rfl aD λH8 s x8=> ?_
    refine !(zh (s _ _ (L _ _ h1)) zH ⟨(zA rfl),λqp bB=> ?_⟩);refine zg (upd _ qp _) rfl bB λH9 n9 x9=> ?_
    refine !(!(!⟨(zA rfl),λt o=> ?_⟩));refine zg (upd _ t _) rfl o λaa R N=> ?_
    have gj:=s.trans (n9.trans R);have mO:=L.trans gj;refine fin _ ns _ mO ⟨t,_,np,wp,qs,rfl,N,⟨qp,tp,qv,rfl,R _ _ x9,R _ _ (n9 _ _ x8),h2.same mO⟩,(u.trans gj) _ _ d,w7.same gj,?_⟩ xx e a;rw [B,h5];simp only [rowsOf,hhs]
inductive spSorted (K:W.Frag) (vs:List V) (H:Hp) (Q:VK) (E:XK):Prop
 | mk:∀th tr q v a7,vs= [v,.int a7]->TabOk th tr->yL th tr H v q->okQ th q->(zx q).length<=4000000->(rowsOf th tr q).length < 64->(∀(v':V) (n:Str) (H':Hp),zw H H'->yL th tr H' v' (.sort n q)->n∈zd th q->Q v' H')->spSorted K vs H Q E
theorem jM:FnScope ["_law_state","_law_seed","_law_name","_law_spot","_law_keys","_law_rows","_law_pair","_law_line"] ["_law_state","_law_seed"] (zi kX):=by walk_at "s"
theorem z4t(F:Fun K "_law_sorted" "_law_sorted" kX f fd)(T:Txt K mg):FnOk P w K mg base CX0 1 f fd ["_law_state","_law_seed"] (spSorted K):=by
 refine F.okB jM (λvs H Q E h=> ?_) (λvs H Q E h=> ?_)
 ·obtain⟨th,tr,q,v,a7,rfl,_⟩:=h
  rfl
 obtain⟨th,tr,q,v,a7,rfl,TT,aO,hok,fF,Z,fin⟩:=h;obtain⟨p,qv,hp,rp,rs,rfl,h1,h2,B,C,U⟩:=aO;obtain⟨aq,mK⟩:=jB TT hok;have cq:=j7 TT hok;have bF:=jG TT hok;have L:(refs rs).length=rs.length:=w9 _;have t6:rs.length < 64:=by rw [<-U,w9]at Z;exact Z
 have hlen:(0:Int) < ((((zd th q).map V.str).length:Nat):Int):=by
  have:=QR.mpr aq;rw [w9];lia
 obtain⟨nm,mn,en⟩:=z1d (i:=a7) aq;have dQ:=jh mn;have nl:=cq nm mn;intro ac A outer sh hr;refine⟨_,(zc (seT 2 jM (ixL (ixT v0 za) (zp zU v1 (leN T.len (zm (ixT v0 za) ze)))))
  (zc (yI (i:=3) jM.nd rfl (QI rfl) (ky wU qB qE yi (ixT v0 za) (zb v2 ze)))
  (zc (jY (j:=4) rfl jM.nd rfl (w02 rfl) (CompSc.of (sx:=zi kX) (NX:= ["_law_state","_law_seed","_law_name","_law_spot","_law_keys","_law_rows","_law_pair","_law_line"]) (fr:= ["_law_state","_law_spot"]) (ix:= [0,3]) rfl rfl (by decide +kernel)) (yj rfl T.range (zO (leN T.len (zm (ixT v0 za) ze)) ze)) (λ_ _ _ _ _ _=>jg) (λ_ _ _ _ _ _=>(zG (zm (yw (yz (K:=K) rfl) (yw (yz (K:=K) rfl) (yw (z00 (K:=K) rfl) v1 za (λ_ _=>rfl)) v0 (λ_ _=>rfl)) v2 (λ_ _=>rfl)) (zb v0 ze)))))
  (zc (seT 5 jM (zF ze))
  (zc (foR (zR (zP (z6w rfl) rfl T.sorted PyProof.Rows.boot_sorted (zb v4 ze))) (gnM 6 jM)
   (zf (jd (apP v5 (zm (ixL (ixT v0 za) (ixT (pv 6) za)) ze)))))
  (zc (seT 7 jM (zp zn (zp zn (zp zn (zp zn zo v2) zo) (ixT v0 za)) zo))
  (zf (zr (zG (zZ (zG (zt zo (zb v2 (zm (ixT v0 za) ze)))) (zb (pv 7) (zm (ixT v0 za) (zb v5 ze))))))))))))),?_⟩
 generalize hK0:K=K1
 revert K1
 refine jj (by walk_at "cl") ?_;refine !(zh h1 jz (!(!(zh h1 jz ⟨hp,!⟨.inl (SqL.of B),ex2 rfl rfl ⟨hlen,zu B en ?_⟩⟩⟩))));refine !(zh h1 jz ⟨.inl ⟨rfl,_,SqL.of B⟩,!⟨hp,_,_,(zd th q).idxOf nm,rfl,rfl,SqL.of B,rfl,zT _,dQ.1,dQ.2,?_⟩⟩);have sl:∀r∈rs,(zd th q).idxOf nm < r.2.length:=λr m=>by
  rw [bF r.2 (by rw [<-U];exact qe.mpr ⟨_,m,rfl⟩)];exact qz.mpr mn
 generalize ao:(zd th q).idxOf nm=sp at sl;refine !(zh h1 z0Q ⟨rp,!⟨.inl (SqL.of C.1),!⟨by lia,by rw [L];lia,?_⟩⟩⟩);refine z05 (lo:=0) (n:=(((refs rs).length:Nat):Int).toNat) (λi ys H'=>zw H H'/\∃ps:List PQ,ys=(ps.map λp=>V.ref p.1)/\ps.length=i/\(∀p∈ps,H' p.1=some (.tup [.int p.2.1,.int p.2.2]))/\∀(m:Nat) (hm:m < ps.length),ps[m].2=((rs.getD m (0,[])).2.getD sp 0,(m:Int))) ⟨zw.refl _,[],rfl,rfl,λ_ z=>(by cases z),λm hm=>absurd hm (Nat.not_lt_zero _)⟩ ?_ ?_ ?_
 ·rintro i ys H' hi ⟨s,ps,rfl,hq,_,_⟩;rw [Int.toNat_natCast,L]at hi;exact zE (by rw [w9];lia)
 ·rintro i ys H' hi ⟨s,ps,rfl,hq,I,O⟩;rw [Int.toNat_natCast,L]at hi;have aZ:=s _ _ (C.2 _ (wu hi)).2;refine !(zh (s _ _ h1) z0Q (!(zu (s _ _ C.1) (z6v hi) (!(zu aZ (zW (int_at (sl _ (wu hi)))) (!⟨(zA rfl),λtp aD=> ?_⟩))))));have t:=zB aD (.tup [V.int (rs[i].2.getD sp 0),V.int (0 + (i:Int))]);refine⟨s.trans t,ps ++ [(tp,rs[i].2.getD sp 0,0 + (i:Int))],by simp,by rw [wg,hq];rfl,λr m=> ?_,λm hm=> ?_⟩
  ·rcases wB.mp m with m | m
   ·exact t _ _ (I r m)
   ·rw [wx.mp m];exact zj
  ·rw [wg,wS]at hm;by_cases gO:m < ps.length
   ·rw [List.getElem_append_left gO];exact O m gO
   ·have em:m=ps.length:=by lia
    subst em;rw [List.getElem_append_right (ww _)];simp only [Nat.sub_self,List.getElem_cons_zero];rw [hq,wb (l:=rs),wa hi,w0N]
    rfl
 ·rintro ys H' ⟨s,ps,rfl,hq,I,O⟩ kp io;rw [Int.toNat_natCast,L]at hq;refine zg (upd _ kp _) rfl io λH1 t x1=> ?_
  have s1:=s.trans t;refine⟨(zA rfl),λc Y=> ?_⟩;refine zg (upd _ c _) rfl Y λH2 G x2=> ?_
  have s2:=s1.trans G;have iQ:H c=none:=s1.free Y;refine !⟨kp,ps,rfl,SqL.of (G _ _ x1),λp m=>G _ _ (t _ _ (I p m)),by lia,λdp is u pm pw=> ?_⟩;have eL:dp≠c:=(zq x2 u).symm;refine zg (upd _ dp _) rfl u λH3 R x3=> ?_
  rw [hq]at pm;have mem:∀i∈is,i < rs.length:=λi hi=>Qb.mp (pm.mem_iff.mp hi)
  have N:∀i,i < rs.length->(ps.getD i pq0).2=((rs.getD i (0,[])).2.getD sp 0,(i:Int)):=λi hi=>by
   rw [wb,wa (by lia)];exact O i (by lia)
  have s3:=s2.trans R;refine⟨dp,rfl,⟨_,SqL.of x3⟩,yg (K:=K) (a:=dp) (xs:=is.map λi=>V.ref (ps.getD i pq0).1) (λi σ H'=>∃S:Option V,σ= [some (.ref p),some (.int a7),some (.str nm),some (.int ((sp:Nat):Int)),some (.ref kp),some (.ref c),S,none]/\zw H H'/\H' dp=some (.lst (is.map λi=>V.ref (ps.getD i pq0).1))/\(∀p∈ps,H' p.1=some (.tup [.int p.2.1,.int p.2.2]))/\
   RowsAt H' c ((is.take i).map λi=>rs.getD i (0,[]))) ⟨none,rfl,s3,x3,λp m=>R _ _ (G _ _ (t _ _ (I p m))),yB (R _ _ x2)⟩ (λi σ H' _ ⟨_,_,_,z,_⟩=>SqL.of z) ?_ ?_⟩
  ·rintro i x σ H4 hi ⟨S,rfl,e,d4,J,o⟩;have M:i < is.length:=by
    have:=(we.mp hi).1
    rwa [w9]at this
   rw [wF,wa M]at hi;cases hi;have d:=mem _ (wu M);have mp:ps.getD is[i] pq0∈ps:=by
    rw [wb,wa (by lia)];exact wu _
   have ek:=N _ d;have e2:(ps.getD is[i] pq0).2.2=((is[i]:Nat):Int):=by rw [ek]
   have j4:=C.same e;have eg:rs.getD is[i] (0,[])=rs[is[i]]:=by rw [wb,wa d];rfl
   refine !⟨.inl ⟨rfl,_,SqL.of o.1⟩,!(zh (e _ _ h1) z0Q (!(zh (J _ mp) j8 ⟨rp,_,_,V.ref rs[is[i]].1,rfl,rfl,SqL.of j4.1,by rw [e2];exact zW (jZ d),c,ex2 rfl rfl ⟨o.1,zE (by rw [w9,w9,wK,pm.length_eq,w0L];lia),?_⟩⟩)))⟩;refine !⟨e.put iQ,by rw [zl eL];exact d4,λq' m=>by rw [zl (z3E (J q' m) o.1 (by intro z;cases z))];exact J q' m,?_⟩;rw [wQ,wa M,wD];have rr:=(j4.2 _ (wu d));have xA:rs[is[i]].1≠c:=λz=>by
    have:=(C.2 _ (wu d)).2;rw [z,iQ]at this;cases this
   have:=o.push (q:=rs[is[i]].1) (x:=rs[is[i]].2) xA rr.2
   show RowsAt _ c (_ ++ [rs.getD is[i] (0,[])])
   rw [eg];exact this
  ·rintro σ H4 ⟨S,rfl,e,d4,J,o⟩;rw [w9,qc]at o;refine !(ex2 rfl rfl ⟨by(walk_at "sl"),ex2 rfl rfl ⟨by(walk_at "sl"),!(zh (e _ _ h1) j8 (ex2 rfl rfl ⟨by(walk_at "sl"),ex2 rfl rfl ⟨by(walk_at "sl"),?_⟩⟩))⟩⟩);refine !(!(zh (e _ _ h1) zH ⟨(zA rfl),λqp bB=> ?_⟩));refine zg (upd _ qp _) rfl bB λH5 n5 x5=> ?_
   refine !(!(zh (n5 _ _ (e _ _ h1)) jz (!⟨(zA rfl),λD y=> ?_⟩)));refine zg (upd _ D _) rfl y λH6 n6 x6=> ?_
   have gZ:=n5.trans n6;have X:=e.trans gZ;refine fin _ nm _ X ⟨D,_,hp,c,!⟨x6,⟨qp,qv,rfl,n6 _ _ x5,h2.same X⟩,X _ _ B,o.same gZ,?_⟩⟩ mn
   show _=yX ((zd th q).idxOf nm) (rowsOf th tr q)
   rw [ao,<-U];unfold yX;have e0:is=z2u (z2X (rs.map (·.2)) sp) (rs.map (·.2)).length:=by
    rw [w9];refine z3u pm (Qh.mpr λa b ha hb de=> ?_);have h0:=Qh.mp pw a b ha hb de;have ka:∀i,i < rs.length->z2X (rs.map (·.2)) sp i=(rs.getD i (0,[])).2.getD sp 0:=λi hi=>by
     unfold z2X;rw [z2L hi,wb (l:=rs),wa hi]
     rfl
    have ma:=mem _ (wu ha);have mb:=mem _ (wu hb);rw [N _ ma,N _ mb]at h0;have h0:=w04 h0;refine wL ?_;rw [ka _ ma,ka _ mb];replace h0:¬((rs.getD is[b] (0,[])).2.getD sp 0 < (rs.getD is[a] (0,[])).2.getD sp 0\/(rs.getD is[b] (0,[])).2.getD sp 0=(rs.getD is[a] (0,[])).2.getD sp 0/\((is[b]:Nat):Int) < ((is[a]:Nat):Int)):=h0
    lia
   rw [<-e0,Qe];refine Qq λi hi=> ?_
   have d:=mem i hi
   show(rs.getD i (0,[])).2=_
   rw [z2L d,wb,wa d]
   rfl
theorem z82(h:rows[i]? =some r):jL s (rows.take (i + 1))=if r.getD s 0∈jL s (rows.take i)then jL s (rows.take i)else jL s (rows.take i) ++ [r.getD s 0]:=by
 unfold jL;rw [wQ,h,w0M]
 rfl
theorem z3a(rows:List (List Int)):(jL s rows).length<=rows.length:=by
 have go:∀(rows:List (List Int)) (acc:List Int),(rows.foldl (λacc r=>if r.getD s 0∈acc then acc else acc ++ [r.getD s 0]) acc).length<=acc.length + rows.length:=by
  intro rows
  induction rows with
  | nil=>intro acc;exact ww _
  | cons r rows a=>
   intro acc;rw [List.foldl_cons,wN];refine wP (a _) ?_;split
   ·lia
   ·rw [wg,wS];lia
 have:=go rows [];rw [Qo,Nat.zero_add]at this;exact this
theorem z9f{x:Int}:∀{xs:List Int},inV (.int x) (xs.map V.int)=decide (x∈xs)
 | []=>by simp [inV]
 | y :: ys=>by
  have a:=z9f (x:=x) (xs:=ys);unfold inV at a ⊢;rw [qC,w1t,a]
  show((y == x) || decide (x∈ys))=_
  by_cases h:y=x
  ·subst h;simp
  ·rw [show(y == x)=false by simpa using h,Bool.false_or];by_cases m:x∈ys
   ·simp [m]
   ·have b:¬x=y:=λz=>h z.symm
    simp [m,b]
theorem zaw(xs:List Int):(xs.map V.int).all yW=true:=by
 rw [List.all_map];exact qN.mpr λ_ _=>rfl
inductive spCounted (K:W.Frag) (vs:List V) (H:Hp) (Q:VK) (E:XK):Prop
 | mk:∀th tr q v a7 g,vs= [v,.int a7,.str g]->TabOk th tr->yL th tr H v q->okQ th q->g.length=1->(zx q).length<=4000000->(rowsOf th tr q).length<=100000->(∀(v':V) (a b:Str) (H':Hp),zw H H'->yL th tr H' v' (.group a b (("n":Str) ++ g) (("s":Str) ++ g) q)->a∈zd th q->b∈zd th q->Q v' H')->spCounted K vs H Q E
theorem zS:FnScope ["_law_state","_law_seed","_law_sign","_law_by","_law_of","_law_spot","_law_place","_law_rows","_law_row","_law_same","_law_total","_law_names","_law_line","_law_question"] ["_law_state","_law_seed","_law_sign"] (zi ye):=by walk_at "s"
theorem z3V(F:Fun K "_law_counted" "_law_counted" ye f fd)(T:Txt K mg):FnOk P w K mg base CX0 1 f fd ["_law_state","_law_seed","_law_sign"] (spCounted K):=by
 refine F.okB zS (λvs H Q E h=> ?_) (λvs H Q E h=> ?_)
 ·obtain⟨th,tr,q,v,a7,g,rfl,_⟩:=h
  rfl
 obtain⟨th,tr,q,v,a7,g,rfl,TT,aO,hok,gl,fF,aY,fin⟩:=h;obtain⟨p,qv,hp,rp,rs,rfl,h1,h2,l,o,h5⟩:=aO;obtain⟨aq,mK⟩:=jB TT hok;have cq:=j7 TT hok;have bF:=jG TT hok;have X:(refs rs).length=rs.length:=w9 _;have t6:rs.length<=100000:=by rw [<-h5,w9]at aY;exact aY
 have hlen:(0:Int) < ((((zd th q).map V.str).length:Nat):Int):=by
  have:=QR.mpr aq;rw [w9];lia
 obtain⟨a,N,ea⟩:=z1d (i:=a7) aq;obtain⟨b,mb,eb⟩:=z1d (i:=a7 / 2) aq;have ia:=jh N;have ib:=jh mb;have la:=cq a N;have lb:=cq b mb;intro ac A outer sh hr;refine⟨_,(zc (seT 3 zS (ixL (ixT v0 za) (zp zU v1 (leN T.len (zm (ixT v0 za) ze)))))
  (zc (seT 4 zS (ixL (ixT v0 za) (zp zU (zp yc v1 za) (leN T.len (zm (ixT v0 za) ze)))))
  (zc (yI (i:=5) zS.nd rfl (QI rfl) (ky wU qB qE yi (ixT v0 za) (zb v3 ze)))
  (zc (yI (i:=6) zS.nd rfl (QI rfl) (ky wU qB qE yi (ixT v0 za) (zb v4 ze)))
  (zc (seT 7 zS (zF ze))
  (zc (foR (zR (ixT v0 za)) (z0s (i:=8) zS.nd rfl (QI rfl))
   (zf (zD (kZ ki (ixL (pv 8) v5) (jC rfl (CompSc.of (sx:=zi ye) (NX:= ["_law_state","_law_seed","_law_sign","_law_by","_law_of","_law_spot","_law_place","_law_rows","_law_row","_law_same","_law_total","_law_names","_law_line","_law_question"]) (fr:= []) (ix:= []) rfl rfl (by decide +kernel)) (zR (pv 7)) (λ_ _ _ _ _ _=>jg) (λ_ _ _ _ _ _=>(yw (yz (K:=K) rfl) v0 za (λ_ _=>rfl)))) (by with_unfolding_all rfl))
    (zc (jY (j:=9) rfl zS.nd rfl (w02 rfl) (CompSc.of (sx:=zi ye) (NX:= ["_law_state","_law_seed","_law_sign","_law_by","_law_of","_law_spot","_law_place","_law_rows","_law_row","_law_same","_law_total","_law_names","_law_line","_law_question"]) (fr:= ["_law_spot","_law_row"]) (ix:= [5,8]) rfl rfl (by decide +kernel)) (zR (ixT v0 za)) (λ_ _ _ _ _ _=>(z29 (cmT zM (yw (yz (K:=K) rfl) v0 v1 (λ_ _=>rfl)) (yw (yz (K:=K) rfl) v2 v1 (λ_ _=>rfl))))) (λ_ _ _ _ _ _=>v0))
    (zc (seT 10 zS (zP (z1P rfl) rfl T.sum w0t (z0r (jC rfl (CompSc.of (sx:=zi ye) (NX:= ["_law_state","_law_seed","_law_sign","_law_by","_law_of","_law_spot","_law_place","_law_rows","_law_row","_law_same","_law_total","_law_names","_law_line","_law_question"]) (fr:= ["_law_place"]) (ix:= [6]) rfl rfl (by decide +kernel)) (zR (pv 9)) (λ_ _ _ _ _ _=>jg) (λ_ _ _ _ _ _=>(yw (yz (K:=K) rfl) v0 v1 (λ_ _=>rfl)))) ze)))
    (zf (jd (apP (pv 7) (jI (zF (zm (ixL (pv 8) v5) (zO (leN T.len (zb (pv 9) ze)) (zb (pv 10) ze)))) ze))))))
    zv)))
  (zc (seT 11 zS (zp zn (zp zn (zp zn (zp zn (zp zn (zp zn v3 zo) v4) zo) v2) zo) v2))
  (zc (seT 12 zS (zp zn (zp zn (zp zn (zp zn zo (pv 11)) zo) (ixT v0 za)) zo))
  (zc (seT 13 zS (zG (zt zo (zb v3 (zb v4 (yo (zp zn zo v2) (yo (zp zn zo v2) (zm (ixT v0 za) ze))))))))
  (zf (zr (zG (zb (pv 13) (zb (pv 12) (jI (zF (zb v3 (yo (zp zn zo v2) (yo (zp zn zo v2) ze)))) (zb (pv 7) ze)))))))))))))))),?_⟩
 generalize hK0:K=K1
 revert K1
 refine jj (by walk_at "cl") ?_;refine !(zh h1 jz (!(!(zh h1 jz ⟨hp,!⟨.inl (SqL.of l),ex2 rfl rfl ⟨hlen,zu l ea ?_⟩⟩⟩))));refine !(zh h1 jz (!(ex2 rfl rfl ⟨⟨by decide,by decide⟩,!(zh h1 jz ⟨hp,!⟨.inl (SqL.of l),ex2 rfl rfl ⟨hlen,zu l eb ?_⟩⟩⟩)⟩)));refine !(zh h1 jz ⟨.inl ⟨rfl,_,SqL.of l⟩,!⟨hp,_,_,(zd th q).idxOf a,rfl,rfl,SqL.of l,rfl,zT _,ia.1,ia.2,?_⟩⟩);refine !(zh h1 jz ⟨.inl ⟨rfl,_,SqL.of l⟩,!⟨hp,_,_,(zd th q).idxOf b,rfl,rfl,SqL.of l,rfl,zT _,ib.1,ib.2,?_⟩⟩);have aK:∀r∈rs,r.2.length=(zd th q).length:=λr m=>bF r.2 (by rw [<-h5];exact qe.mpr ⟨_,m,rfl⟩)
 have ph:∀r∈rs,(zd th q).idxOf a < r.2.length:=λr m=>by rw [aK r m];exact qz.mpr N
 have t7:∀r∈rs,(zd th q).idxOf b < r.2.length:=λr m=>by rw [aK r m];exact qz.mpr mb
 generalize hsa:(zd th q).idxOf a=sa at ph;generalize hsb:(zd th q).idxOf b=y at t7;refine⟨(zA rfl),λd Z=> ?_⟩;refine zg (upd _ d _) rfl Z λH1 n1 x1=> ?_
 have DQ:∀r∈rs,r.1≠d:=λr m=>zq (o.2 r m).2 Z
 refine !(zh (n1 _ _ h1) z0Q ⟨rp,rfl,⟨_,SqL.of (n1 _ _ o.1)⟩,yg (K:=K) (a:=rp) (xs:=refs rs) (λi σ H'=>∃(qs:List (Addr×List Int)) (o8 o9 pi:Option V),σ= [some (.ref p),some (.int a7),some (.str g),some (.str a),some (.str b),some (.int ((sa:Nat):Int)),some (.int ((y:Nat):Int)),some (.ref d),o8,o9,pi,none,none,none]/\zw H H'/\RowsAt H' d qs/\
  qs.map (·.2)=(jL sa ((rs.map (·.2)).take i)).map (yD sa y (rs.map (·.2)))) ⟨[],none,none,none,rfl,n1,yB x1,rfl⟩ (λi σ H' _ ⟨_,_,_,_,_,sm,_⟩=>SqL.of (sm _ _ o.1)) ?_ ?_⟩)
 ·rintro i x σ H2 hi ⟨qs,o8,o9,pi,rfl,s2,w2,c⟩;have t:i < rs.length:=by
   have:=(we.mp hi).1
   rwa [X]at this
  rw [jZ t]at hi;cases hi;have kl:(jL sa ((rs.map (·.2)).take i)).length<=100000:=by
   have:=z3a (s:=sa) ((rs.map (·.2)).take i);rw [wK,w9]at this
   lia
  have lq:qs.length=(jL sa ((rs.map (·.2)).take i)).length:=by
   have:=Q6 List.length c
   rwa [w9,w9]at this
  have hE:(refs qs).length=qs.length:=w9 _;have z:=z82 (s:=sa) (z1p t);have hR:=s2 _ _ (o.2 _ (wu t)).2;have pq:=ph _ (wu t);have qk:qs.map (λr=>r.2.getD 0 0)=jL sa ((rs.map (·.2)).take i):=by
   have:=Q6 (List.map λr:List Int=>r.getD 0 0) c;rw [Qe,Qe]at this;refine this.trans ?_
   conv=>rhs;rw [<-List.map_id (jL sa ((rs.map (·.2)).take i))]
   rfl
  have q3:∀r∈qs,r.2.length=3:=λr m=>by
   have:r.2∈qs.map (·.2):=qe.mpr ⟨r,m,rfl⟩;rw [c]at this;obtain⟨k,_,e⟩:=qe.mp this;rw [<-e]
   rfl
  generalize jL sa ((rs.map (·.2)).take i)=ks at c kl lq z qk;refine !(!(zu hR (zW (int_at pq)) (!⟨d,rfl,⟨_,SqL.of w2.1⟩,?_⟩)));refine ja (xs:=refs qs) (λm ys H'=>H'=H2/\ys=((qs.take m).map λr=>r.2.getD 0 0).map V.int) ⟨rfl,rfl⟩ ?_ ?_ ?_
  ·rintro m ys I hm ⟨rfl,rfl⟩;exact⟨SqL.of w2.1,zE (by rw [w9,w9,wK];lia)⟩
  ·rintro m x ys I hm ⟨rfl,rfl⟩;have R:m < qs.length:=by
    have:=(we.mp hm).1
    rwa [hE]at this
   rw [jZ R]at hm;cases hm;refine !(zu ((w2.2 _ (wu R)).2) (zW (j:=0) (int_at (by rw [q3 _ (wu R)];decide))) ⟨rfl,?_⟩);rw [wQ,wa R,wD,wD]
   rfl
  ·rintro ys I ⟨rfl,rfl⟩ lp Y;rw [hE,qc,qk];refine zg (upd _ lp _) rfl Y λI O x3=> ?_
   refine⟨lp,!⟨.inl (SqL.of x3),rfl,zaw _,!?_⟩⟩;rw [z9f];have J:=s2.trans O;have w3:=w2.same O;refine yT (λhb=> ?_) (λhb=> ?_)
   ·have eE:¬rs[i].2.getD sa 0∈ks:=by simpa using hb
    rw [wM eE]at z;have U:=o.same J;refine !(zh (J _ _ h1) z0Q ⟨rp,rfl,⟨_,SqL.of U.1⟩,?_⟩);refine z0t (xs:=refs rs) (λm ys H'=>H'=I/\ys=refs ((rs.take m).filter λr=>decide (r.2.getD sa 0=rs[i].2.getD sa 0))) ⟨rfl,rfl⟩ ?_ ?_ ?_
    ·rintro m ys B hm ⟨rfl,rfl⟩;refine⟨SqL.of U.1,zE ?_⟩;have:=qh (λr:Addr×List Int=>decide (r.2.getD sa 0=rs[i].2.getD sa 0)) (rs.take m);rw [w9];rw [wK]at this
     lia
    ·rintro m x ys B hm ⟨rfl,rfl⟩;have S:m < rs.length:=by
      have:=(we.mp hm).1
      rwa [X]at this
     rw [jZ S]at hm;cases hm;have ft:=z0J (λr:Addr×List Int=>decide (r.2.getD sa 0=rs[i].2.getD sa 0)) rs (wa S);refine !(!(zu ((U.2 _ (wu S)).2) (zW (int_at (ph _ (wu S)))) (!(!(zu ((U.2 _ (wu t)).2) (zW (int_at pq)) ⟨rfl,!?_⟩)))));rw [z2Q];refine yT (λhc=> ?_) (λhc=> ?_)
     ·refine !⟨rfl,?_⟩;rw [ft,wY hc];simp [refs]
     ·refine⟨rfl,?_⟩;rw [ft,wM hc,Ql]
    ·rintro ys B ⟨rfl,rfl⟩ mp gm;rw [X,qc];refine zg (upd _ mp _) rfl gm λB D u=> ?_
     have s4:=J.trans D;have fl:(rs.filter λr=>decide (r.2.getD sa 0=rs[i].2.getD sa 0)).length<=rs.length:=qh _ _;have fm:∀r∈rs.filter (λr=>decide (r.2.getD sa 0=rs[i].2.getD sa 0)),r∈rs:=λr m=>(Qf.mp m).1
     have fe:(rs.filter λr=>decide (r.2.getD sa 0=rs[i].2.getD sa 0)).map (·.2)=(rs.map (·.2)).filter λr=>decide (r.getD sa 0=rs[i].2.getD sa 0):=by
      rw [QK]
      rfl
     generalize (rs.filter λr=>decide (r.2.getD sa 0=rs[i].2.getD sa 0))=fs at u fl fm fe;have pz:(refs fs).length=fs.length:=w9 _;have j4:=o.same s4;refine !⟨mp,rfl,⟨_,SqL.of u⟩,?_⟩;refine ja (xs:=refs fs) (λm ys H'=>H'=B/\ys=((fs.take m).map λr=>r.2.getD y 0).map V.int) ⟨rfl,rfl⟩ ?_ ?_ ?_
     ·rintro m ys L hm ⟨rfl,rfl⟩;exact⟨SqL.of u,zE (by rw [w9,w9,wK];lia)⟩
     ·rintro m x ys L hm ⟨rfl,rfl⟩;have pA:m < fs.length:=by
       have:=(we.mp hm).1
       rwa [pz]at this
      rw [jZ pA]at hm;cases hm;have mr:=fm _ (wu pA);refine !(!(zu ((j4.2 _ mr).2) (zW (int_at (t7 _ mr))) ⟨rfl,?_⟩));rw [wQ,wa pA,wD,wD]
      rfl
     ·rintro ys L ⟨rfl,rfl⟩ tp aD;rw [pz,qc];refine zg (upd _ tp _) rfl aD λL n M=> ?_
      refine⟨tp,!⟨SqL.of M,?_⟩⟩;have G:=s4.trans n;have w5:=w3.same (D.trans n);refine !⟨.inl ⟨rfl,_,SqL.of w5.1⟩,!(!(zu (G _ _ (o.2 _ (wu t)).2) (zW (int_at pq)) (!⟨mp,!⟨.inl (SqL.of (n _ _ u)),!⟨(zA rfl),λgp C=> ?_⟩⟩⟩)))⟩;have n6:=zB C (.lst [V.int (rs[i].2.getD sa 0),V.int (((refs fs).length:Nat):Int),V.int (fs.map λr=>r.2.getD y 0).sum]);have w6:=w5.same n6;refine⟨d,ex2 rfl rfl ⟨w6.1,zE (by rw [w9];lia),?_⟩⟩;have nq:gp≠d:=(zq w5.1 C).symm;refine⟨qs ++ [(gp,[rs[i].2.getD sa 0,((fs.length:Nat):Int),(fs.map λr=>r.2.getD y 0).sum])],_,_,!⟨(G.trans n6).put Z,w6.push nq (by rw [zj,pz];rfl),?_⟩⟩;rw [wD,c,z,wD]
      congr 1
      show [_]= [yD sa y (rs.map (·.2)) (rs[i].2.getD sa 0)]
      unfold yD;rw [<-fe,w9,Qe]
      rfl
   ·have eE:rs[i].2.getD sa 0∈ks:=by simpa using hb
    rw [wY eE]at z;refine⟨qs,_,_,!⟨J,w3,?_⟩⟩;rw [c,z]
 ·rintro σ H2 ⟨qs,o8,o9,pi,rfl,s2,w2,c⟩;rw [X,show(rs.map (·.2)).take rs.length=rs.map (·.2)from qS (by rw [w9];exact ww _)]at c;have g1:=s2 _ _ h1;refine !(ex2 rfl rfl ⟨by(walk_at "sl"),!(ex2 rfl rfl ⟨by(walk_at "sl"),ex2 rfl rfl ⟨by(walk_at "sl"),!(ex2 rfl rfl ⟨by(walk_at "sl"),ex2 rfl rfl ⟨by(walk_at "sl"),!(ex2 rfl rfl ⟨by(walk_at "sl"),?_⟩)⟩⟩)⟩⟩)⟩);refine !(ex2 rfl rfl ⟨by(walk_at "sl"),ex2 rfl rfl ⟨by(walk_at "sl"),!(zh g1 j8 (ex2 rfl rfl ⟨by(walk_at "sl"),ex2 rfl rfl ⟨by(walk_at "sl"),?_⟩⟩))⟩⟩);refine !(!(!(ex2 rfl rfl ⟨by(walk_at "sl"),!(ex2 rfl rfl ⟨by(walk_at "sl"),!(zh g1 zH ⟨(zA rfl),λqp bB=> ?_⟩)⟩)⟩)));refine zg (upd _ qp _) rfl bB λI O x3=> ?_
  refine !(!(!(!(ex2 rfl rfl ⟨by(walk_at "sl"),!(ex2 rfl rfl ⟨by(walk_at "sl"),(zA rfl),λlp Y=> ?_⟩)⟩))));refine zg (upd _ lp _) rfl Y λB D u=> ?_
  refine !⟨(zA rfl),λsp ao=> ?_⟩;refine zg (upd _ sp _) rfl ao λL n M=> ?_
  have iM:=O.trans (D.trans n);have G:=s2.trans iM;have el:(("(group ":Str) ++ (a ++ " " ++ b ++ " n" ++ g ++ " s" ++ g) ++ " " ++ zx q ++ ")":Str)=zx (.group a b (("n":Str) ++ g) (("s":Str) ++ g) q):=by
   simp only [zx];have e1:(" n":Str)=(" ":Str) ++ ("n":Str):=by decide +kernel
   have c:(" s":Str)=(" ":Str) ++ ("s":Str):=by decide +kernel
   rw [e1,c];simp only [Str.append_assoc]
  rw [el]at M;refine fin _ a b _ G ⟨sp,_,lp,d,qs,rfl,M,⟨qp,qv,rfl,n _ _ (D _ _ x3),h2.same G⟩,n _ _ u,w2.same iM,?_⟩ N mb;rw [c,h5];simp only [rowsOf,z2q,hsa,hsb]
def kh(th:Str->List Str)(tr:Str->List (List Int)):Qn->Prop
 | .table n=>(tr n).length<=60
 | .pick _ q | .cols _ q | .first _ q | .group _ _ _ _ q | .sort _ q=>kh th tr q
 | .pair q r | .join _ _ q r=>kh th tr q/\kh th tr r/\(rowsOf th tr q).length * (rowsOf th tr r).length<=60
 | .both q r=>kh th tr q/\kh th tr r/\(rowsOf th tr q).length + (rowsOf th tr r).length<=60
theorem z7g(T:TabOk th tr):∀n∈tabs,(tr n).length<=60:=by
 intro n hn;simp only [tabs,wG,qi,QG]at hn;rcases hn with rfl | rfl | rfl | rfl
 ·exact T.ct
 ·have:=T.cw;lia
 ·have:=T.cx;lia
 ·have:=T.cz;lia
structure Rt(th:Str->List Str)(tr:Str->List (List Int))(n:Str)(r:Qn)(k:Nat):Prop where
 ok:okQ th r
 hd:zd th r=th n
 ln:(rowsOf th tr r).length<=(tr n).length
 li:(zx r).length<=10 + 100 * k
 dp:depth r<=1 + 2 * k
 sub:kh th tr r
structure Un2(th:Str->List Str)(tr:Str->List (List Int))(q:Qn)(n:Str)(q':Qn):Prop where
 ok:okQ th q'
 hd:zd th q'=zd th q ++ th n\/zd th q'=th n ++ zd th q
 ln:(rowsOf th tr q').length<=(rowsOf th tr q).length * (tr n).length
 li:(zx q').length<=(zx q).length + 600
 dp:depth q'<=max (depth q) 5 + 2
 nt:∀m,q'≠ .table m
 sub:kh th tr q->(rowsOf th tr q).length * (tr n).length<=60->kh th tr q'
theorem pairs_len(xs ys:List (List Int)):(pairs xs ys).length=xs.length * ys.length:=by
 unfold pairs
 induction xs with
 | nil=>simp
 | cons x xs a=>
  rw [QS,wg,w9,a,wN,w1l,Nat.one_mul,Nat.add_comm]
theorem z4b{xs:List (List Int)}(h:xs[i]? =some x):pairs (xs.take (i + 1)) ys=pairs (xs.take i) ys ++ ys.map λy=>x ++ y:=by
 unfold pairs;rw [wQ,h,w0P];simp
theorem z3l(s:Nat)(rows:List (List Int)):(yX s rows).length=rows.length:=by
 unfold yX;rw [w9,z7T]
inductive spUnited (K:W.Frag) (vs:List V) (H:Hp) (Q:VK) (E:XK):Prop
 | mk:∀th tr q n v tv a7,vs= [v,tv,.int a7]->TabOk th tr->yL th tr H v q->okQ th q->TabAt th tr H tv n->n∈tabs->(∀x∈zd th q,x∉th n)->(zx q).length<=4000000->(rowsOf th tr q).length<=1000->(tr n).length < 64->(zd th q).length<=1000->(th n).length<=1000->(∀(v':V) (q':Qn) (H':Hp),zw H H'->yL th tr H' v' q'->Un2 th tr q n q'->Q v' H')->spUnited K vs H Q E
theorem zaX:∀n∈tabs,n.length<=10:=by decide +kernel
theorem z9d{s:Str}(h:s∈hs)(hl:r.length=hs.length):hs.idxOf s < r.length:=by rw [hl];exact qz.mpr h
theorem zy:FnScope ["_law_state","_law_table","_law_seed","_law_left","_law_right","_law_heads","_law_rows","_law_one","_law_two","_law_name","_law_other","_law_line","_law_question","_law_spot","_law_place","_law_same"] ["_law_state","_law_table","_law_seed"] (zi kU):=by walk_at "s"
set_option maxHeartbeats 1600000 in
theorem z4h(F:Fun K "_law_united" "_law_united" kU f fd)(T:Txt K mg)(p:Kn P w K mg base 1 "_law_sorted" ["_law_state","_law_seed"] (spSorted K))(l:Kn P w K mg base 1 "_law_headed" ["_law_state","_law_seed"] (spHeaded K)):FnOk P w K mg base CX0 2 f fd ["_law_state","_law_table","_law_seed"] (spUnited K):=by
 refine F.okB zy (λvs H Q E h=> ?_) (λvs H Q E h=> ?_)
 ·obtain⟨th,tr,q,n,v,tv,a7,rfl,_⟩:=h
  rfl
 obtain⟨th,tr,q,n,v,tv,a7,rfl,TT,aO,hok,ht,mn,dj,fF,aY,mL,gi,t8,fin⟩:=h;obtain⟨tp,mM,iN,ts,rfl,t1,t3,t4,t5⟩:=ht;have nl:=zaX n mn;intro ac A outer sh hr;have hu:=z3w hr;refine⟨_,(zc (seT 3 zy v0)
  (zc (seT 4 zy (zG (zZ (zG (zt zo (zm (ixT v1 za) ze))) (zm (ixT v1 za) (zm (ixT v1 za) (zm (ixT v1 za) ze))))))
  (zc (kH (cmT zM (zp zU v2 za) za)
   (zf (seT 4 zy (zQ p hr.m (zb v4 (yo (zp yc v2 za) ze)))))
   zv)
  (zc (kH (cmT zM (zp zU v2 za) za)
   (zf (seT 4 zy (zQ l hr.m (zb v4 (zt za ze)))))
   zv)
  (zc (kH (cmT zM (zp zU (zp yc v2 za) za) za)
   (zc (seT 3 zy v4)
   (zf (seT 4 zy v0)))
   zv)
  (zc (seT 5 zy (zp kC (ixT v3 za) (ixT v4 za)))
  (zc (seT 6 zy (zF ze))
  (zc (foR (zR (ixT v3 za)) (gnM 7 zy)
   (zf (foR (zR (ixT v4 za)) (gnM 8 zy)
    (zf (jd (apP (pv 6) (yo (zp kC (pv 7) (pv 8)) ze)))))))
  (zc (seT 9 zy (ixL (ixT v3 za) (zp zU (zp yc v2 za) (leN T.len (zm (ixT v3 za) ze)))))
  (zc (seT 10 zy (ixL (ixT v4 za) (zp zU (zp yc v2 za) (leN T.len (zm (ixT v4 za) ze)))))
  (zc (seT 11 zy (zp zn (zp zn (zp zn (zp zn zo (ixT v3 za)) zo) (ixT v4 za)) zo))
  (zc (seT 12 zy (zG (zt zo (zm (ixT v3 za) (zm (ixT v4 za) ze)))))
  (zc (zD (cmT zM (zp zU v2 za) za)
   (zf (zr (zG (zb (pv 12) (zb (pv 11) (zb v5 (zb (pv 6) ze)))))))
   zv)
  (zc (yI (i:=13) zy.nd rfl (QI rfl) (ky wU qB qE yi v5 (zb (pv 9) ze)))
  (zc (yI (i:=14) zy.nd rfl (QI rfl) (ky wU qB qE yi v5 (zb (pv 10) ze)))
  (zc (jY (j:=15) rfl zy.nd rfl (w02 rfl) (CompSc.of (sx:=zi kU) (NX:= ["_law_state","_law_table","_law_seed","_law_left","_law_right","_law_heads","_law_rows","_law_one","_law_two","_law_name","_law_other","_law_line","_law_question","_law_spot","_law_place","_law_same"]) (fr:= ["_law_spot","_law_place"]) (ix:= [13,14]) rfl rfl (by decide +kernel)) (zR (pv 6)) (λ_ _ _ _ _ _=>(z29 (cmT zM (yw (yz (K:=K) rfl) v0 v1 (λ_ _=>rfl)) (yw (yz (K:=K) rfl) v0 v2 (λ_ _=>rfl))))) (λ_ _ _ _ _ _=>v0))
  (zc (zD (z2P (cmT (z7B hu) (pv 15) (zF ze)) (cmT z7D (zp zU v2 za) za))
   (zf (zr (zG (zb (pv 12) (zb (pv 11) (zb v5 (zb (pv 6) ze)))))))
   zv)
  (zc (seT 6 zy (pv 15))
  (zc (kH (cmT zM (zp zU v2 za) za)
   (zc (seT 11 zy (zp zn (zp zn (zp zn (zp zn (zp zn (zp zn (zp zn (zp zn zo (pv 9)) zo) (pv 10)) zo) (ixT v3 za)) zo) (ixT v4 za)) zo))
   (zf (seT 12 zy (zG (zt zo (zb (pv 9) (zb (pv 10) (zm (ixT v3 za) (zm (ixT v4 za) ze)))))))))
   (zf (zD (cmT zM (zp zU v2 za) za)
    (zc (seT 11 zy (zp zn (zp zn (zp zn (zp zn (zp zn (zp zn zo (pv 10)) zo) (pv 9)) zo) (pv 11)) zo))
    (zf (seT 12 zy (zG (zt zo (zZ (zG (zt zo (zb (pv 10) (zb (pv 9) ze)))) (zb (pv 12) ze)))))))
    (zc (seT 11 zy (zp zn (zp zn (zp zn (zp zn (zp zn (zp zn zo (pv 9)) zo) (pv 10)) zo) (pv 11)) zo))
    (zf (seT 12 zy (zG (zt zo (zZ (zG (zt zo (zb (pv 9) (zb (pv 10) ze)))) (zb (pv 12) ze))))))))))
  (zf (zr (zG (zb (pv 12) (zb (pv 11) (zb v5 (zb (pv 6) ze)))))))))))))))))))))))))),?_⟩
 generalize hK0:K=K1
 revert K1
 refine jj (by walk_at "cl") ?_;refine !?_;refine !(zh t1 zH ⟨(zA rfl),λqp bB=> ?_⟩);refine zg (upd _ qp _) rfl bB λH1 n1 x1=> ?_
 have dS:=n1 _ _ t1;refine !(zh dS zH (!(zh dS j8 (!(zh dS jz ⟨(zA rfl),λaf ak=> ?_⟩)))));refine zg (upd _ af _) rfl ak λH2 n2 x2=> ?_
 have s2:=n1.trans n2;have bc:yL th tr H2 (.ref af) (.table n):=⟨af,_,mM,iN,ts,rfl,x2,⟨qp,rfl,n2 _ _ x1⟩,s2 _ _ t3,t4.same s2,t5⟩;have hG:Rt th tr n (.table n) 0:=⟨mn,rfl,ww _,nl,ww _,z7g TT n mn⟩;refine⟨λσ H3=>∃(rv:V) (r:Qn),σ= [some v,some (.ref tp),some (.int a7),some v,some rv,none,none,none,none,none,none,none,none,none,none,none]/\zw H H3/\yL th tr H3 rv r/\Rt th tr n r 1,?_,?_⟩
 ·refine !(ex2 rfl rfl ⟨(by show(0:Int) < 7;decide),rfl,!?_⟩);refine yT (λZ=> ?_) (λZ=> ?_)
  ·refine !(!(ex2 rfl rfl ⟨⟨by decide,by decide⟩,th,tr,.table n,_,_,rfl,TT,bc,mn,by have:(zx (.table n)).length<=10:=nl;lia,mL,λv' a H' s' am ma=> ?_⟩));refine⟨v',!⟨s2.trans s',am,⟨ma,mn⟩,rfl,by show(yX _ _).length<=_;rw [z3l];exact ww _,?_,by show 1 + 1<=1 + 2 * 1;decide,z7g TT n mn⟩⟩;have la:=z5H TT n mn a ma;simp only [zx]
   (walk_at "sl")
  ·exact⟨_,!⟨s2,bc,hG.ok,hG.hd,hG.ln,by have:=hG.li;lia,by have:=hG.dp;lia,hG.sub⟩⟩
 rintro σ H3 ⟨rv,r,rfl,s3,ay,s⟩;refine⟨λσ H4=>∃(rv:V) (r:Qn),σ= [some v,some (.ref tp),some (.int a7),some v,some rv,none,none,none,none,none,none,none,none,none,none,none]/\zw H H4/\yL th tr H4 rv r/\Rt th tr n r 2,?_,?_⟩
 ·refine !(ex2 rfl rfl ⟨(by show(0:Int) < 7;decide),rfl,!?_⟩);refine yT (λZ=> ?_) (λZ=> ?_)
  ·refine !⟨th,tr,r,_,_,rfl,ay,by have:=s.li;lia,λv' q' H' s' am aG=> ?_⟩;refine⟨v',q',rfl,s3.trans s',am,?_⟩;obtain⟨m,mm,aG⟩:=aG;have lm:=(z09 m mm).1;have DR:=s.li;have DS:=s.dp;rcases aG with rfl | ⟨m',fb,rfl⟩
   ·refine⟨⟨mm,s.ok⟩,s.hd,?_,?_,?_,s.sub⟩
    ·show((rowsOf th tr r).take _).length<=_
     rw [wK];have:=s.ln
     lia
    ·simp only [zx]
     (walk_at "sl")
    ·show depth r + 1<=_
     lia
   ·have DT:=(z09 m' fb).1;refine⟨⟨fb,mm,s.ok⟩,s.hd,?_,?_,?_,s.sub⟩
    ·show(((rowsOf th tr r).take _).take _).length<=_
     rw [wK,wK];have:=s.ln
     lia
    ·simp only [zx]
     (walk_at "sl")
    ·show depth r + 1 + 1<=_
     lia
  ·exact⟨_,!⟨s3,ay,s.ok,s.hd,s.ln,by have:=s.li;lia,by have:=s.dp;lia,s.sub⟩⟩
 clear ay s;rintro σ H4 ⟨rv,r,rfl,s4,fH,C⟩;have DU:=C.li;have DV:=C.dp;have t9:=C.ln;have tf:∀x∈zd th q,x∉zd th r:=by rw [C.hd];exact dj
 have iR:=aO.same s4;have DW:(zx r).length<=300:=by lia
 refine⟨λσ H5=>∃(lv wv:V) (c d:Qn),σ= [some v,some (.ref tp),some (.int a7),some lv,some wv,none,none,none,none,none,none,none,none,none,none,none]/\H5=H4/\yL th tr H4 lv c/\yL th tr H4 wv d/\okQ th c/\okQ th d/\(∀x∈zd th c,x∉zd th d)/\(zx c).length + (zx d).length<=(zx q).length + 300/\
  (rowsOf th tr c).length * (rowsOf th tr d).length<=(rowsOf th tr q).length * (tr n).length/\(rowsOf th tr c).length<=1000/\(rowsOf th tr d).length<=1000/\(zd th c).length<=1000/\(zd th d).length<=1000/\(zd th c ++ zd th d=zd th q ++ th n\/zd th c ++ zd th d=th n ++ zd th q)/\max (depth c) (depth d)<=max (depth q) 5/\(kh th tr q->kh th tr c/\kh th tr d),?_,?_⟩
 ·refine !(ex2 rfl rfl ⟨⟨by decide,by decide⟩,ex2 rfl rfl ⟨(by show(0:Int) < 2;decide),rfl,!?_⟩⟩);refine yT (λZ=> ?_) (λZ=> ?_)
  ·refine !?_;refine !?_;refine⟨_,_,r,q,rfl,rfl,fH,iR,C.ok,hok,λx hx hy=>tf x hy hx,by lia,?_,by lia,aY,by rw [C.hd];exact t8,gi,.inr (by rw [C.hd]),by lia,λh=>⟨C.sub,h⟩⟩;rw [Nat.mul_comm];exact Qr _ t9
  ·exact⟨_,_,q,r,rfl,rfl,iR,fH,hok,C.ok,tf,by lia,Qr _ t9,aY,by lia,gi,by rw [C.hd];exact t8,.inl (by rw [C.hd]),by lia,λh=>⟨h,C.sub⟩⟩
 rintro σ H5 ⟨lv,wv,c,d,rfl,rfl,xB,str,iS,fI,tj,DX,mQ,tq,tz,hU,bD,gX,DY,hV⟩;have tD:=jB TT iS;have tE:=jB TT fI;have xC:=j7 TT iS;have xD:=j7 TT fI;have xE:=jG TT iS;have xF:=jG TT fI;obtain⟨p1,h9,aL,cR,t,rfl,a1,a2,a3,a4,a5⟩:=xB;obtain⟨p2,bT,aU,dh,u,rfl,b1,b2,b3,b4,b5⟩:=str;have l1:t.length<=1000:=by rw [<-a5,w9]at tq;exact tq
 have l2:u.length<=1000:=by rw [<-b5,w9]at tz;exact tz
 have iT:(refs t).length=t.length:=w9 _;have gn:(refs u).length=u.length:=w9 _;have w1:∀r∈t,r.2.length=(zd th c).length:=λr m=>xE r.2 (by rw [<-a5];exact qe.mpr ⟨_,m,rfl⟩)
 have w2:∀r∈u,r.2.length=(zd th d).length:=λr m=>xF r.2 (by rw [<-b5];exact qe.mpr ⟨_,m,rfl⟩)
 refine !(zh a1 jz (!(zh b1 jz ⟨_,_,ex2 rfl rfl ⟨a3,b3,jb (by rw [w9,w9];lia),λhp ck=> ?_⟩⟩)));rw [<-wD];refine zg (upd _ hp _) rfl ck λH6 n6 x6=> ?_
 refine⟨(zA rfl),λD c9=> ?_⟩;refine zg (upd _ D _) rfl c9 λH7 n7 x7=> ?_
 have mR:=n6.trans n7;have f5:H5 D=none:=n6.free c9;refine !(zh (mR _ _ a1) z0Q ⟨cR,rfl,⟨_,SqL.of (mR _ _ a4.1)⟩,yg (K:=K) (a:=cR) (xs:=refs t) (λi σ H'=>∃(ds:List (Addr×List Int)) (o7 S:Option V),σ= [some v,some (.ref tp),some (.int a7),some (.ref p1),some (.ref p2),some (.ref hp),some (.ref D),o7,S,none,none,none,none,none,none,none]/\zw H6 H'/\RowsAt H' D ds/\
  ds.map (·.2)=pairs ((t.map (·.2)).take i) (u.map (·.2))/\ds.length<=i * 1000) ⟨[],none,none,rfl,n7,yB x7,rfl,ww _⟩ (λi σ H' _ ⟨_,_,_,_,sm,_⟩=>SqL.of (sm _ _ (n6 _ _ a4.1))) ?_ ?_⟩)
 ·rintro i x σ H8 hi ⟨ds,o7,S,rfl,s8,hd,R,ld⟩;have X:i < t.length:=by
   have:=(we.mp hi).1
   rwa [iT]at this
  rw [jZ X]at hi;cases hi;have M:=n6.trans s8;refine !(zh (M _ _ b1) z0Q ⟨dh,rfl,⟨_,SqL.of (M _ _ b4.1)⟩,yg (K:=K) (a:=dh) (xs:=refs u) (λj σ H'=>∃(ds:List (Addr×List Int)) (S:Option V),σ= [some v,some (.ref tp),some (.int a7),some (.ref p1),some (.ref p2),some (.ref hp),some (.ref D),some (.ref t[i].1),S,none,none,none,none,none,none,none]/\zw H6 H'/\RowsAt H' D ds/\
   ds.map (·.2)=pairs ((t.map (·.2)).take i) (u.map (·.2)) ++ ((u.map (·.2)).take j).map (λo=>t[i].2 ++ o)/\ds.length<=i * 1000 + j) ⟨ds,S,rfl,s8,hd,by rw [R];simp,by lia⟩ (λj σ H' _ ⟨_,_,_,sm,_⟩=>SqL.of (sm _ _ (n6 _ _ b4.1))) ?_ ?_⟩)
  ·rintro j y σ H9 hj ⟨ds,S,rfl,s9,hd,R,ld⟩;have bV:j < u.length:=by
    have:=(we.mp hj).1
    rwa [gn]at this
   rw [jZ bV]at hj;cases hj;have ff:=n6.trans s9;have hR:=ff _ _ (a4.2 _ (wu X)).2;have hO:=ff _ _ (b4.2 _ (wu bV)).2;have tF:=w1 _ (wu X);have cV:=w2 _ (wu bV);refine !⟨.inl ⟨rfl,_,SqL.of hd.1⟩,!(!⟨_,_,ex2 rfl rfl ⟨hR,hO,jb (by rw [w9,w9];lia),λq1 ag=> ?_⟩⟩)⟩;have nn:=zB ag (.lst (t[i].2.map V.int ++ u[j].2.map V.int));have cW:=hd.same nn;refine⟨D,ex2 rfl rfl ⟨cW.1,zE (by rw [w9];lia),?_⟩⟩;have nq:q1≠D:=(zq hd.1 ag).symm;refine⟨ds ++ [(q1,t[i].2 ++ u[j].2)],!⟨(s9.trans nn).put c9,cW.push nq (by rw [zj,wD]),?_,by rw [wg,wS];lia⟩⟩;rw [wD,R,wQ,z1p bV,wD,w0f]
   rfl
  ·rintro σ H9 ⟨ds,S,rfl,s9,hd,R,ld⟩;refine⟨ds,_,!⟨s9,hd,?_,by rw [gn]at ld;lia⟩⟩;rw [R,z4b (z1p X),gn,show(u.map (·.2)).take u.length=u.map (·.2)from qS (by rw [w9];exact ww _)]
 rintro σ H8 ⟨ds,o7,S,rfl,s8,hd,R,ld⟩;rw [iT,show(t.map (·.2)).take t.length=t.map (·.2)from qS (by rw [w9];exact ww _),a5,b5]at R;have M:=n6.trans s8;have DZ:=s4.trans M;have x8:=s8 _ _ x6;have a8:=M _ _ a1;have b8:=M _ _ b1;have iU:(0:Int) < ((((zd th c).map V.str).length:Nat):Int):=by
  have:=QR.mpr tD.1;rw [w9];lia
 have iV:(0:Int) < ((((zd th d).map V.str).length:Nat):Int):=by
  have:=QR.mpr tE.1;rw [w9];lia
 obtain⟨a,ma,ea⟩:=z1d (i:=a7 / 8) tD.1;obtain⟨b,mb,eb⟩:=z1d (i:=a7 / 2) tE.1;have la:=xC a ma;have lb:=xD b mb;refine !(zh a8 jz (!(ex2 rfl rfl ⟨⟨by decide,by decide⟩,!(zh a8 jz ⟨aL,!⟨.inl (SqL.of (M _ _ a3)),ex2 rfl rfl ⟨iU,zu (M _ _ a3) ea ?_⟩⟩⟩)⟩)));refine !(zh b8 jz (!(ex2 rfl rfl ⟨⟨by decide,by decide⟩,!(zh b8 jz ⟨aU,!⟨.inl (SqL.of (M _ _ b3)),ex2 rfl rfl ⟨iV,zu (M _ _ b3) eb ?_⟩⟩⟩)⟩)));refine !(zh a8 j8 (ex2 rfl rfl ⟨by(walk_at "sl"),ex2 rfl rfl ⟨by(walk_at "sl"),!(zh b8 j8 (ex2 rfl rfl ⟨by(walk_at "sl"),ex2 rfl rfl ⟨by(walk_at "sl"),?_⟩⟩))⟩⟩));refine !(zh a8 zH (!(zh b8 zH ⟨(zA rfl),λpp iW=> ?_⟩)));refine zg (upd _ pp _) rfl iW λH9 n9 x9=> ?_
 have ff:=M.trans n9;have pB:QAt H9 (.pair c d) (.ref pp):=⟨pp,h9,bT,rfl,x9,a2.same ff,b2.same ff⟩;have iX:=hd.same n9;have xG:(zx (.pair c d)).length<=(zx q).length + 310:=by simp only [zx];(walk_at "sl")
 have tG:ds.map (·.2)=rowsOf th tr (.pair c d):=R;have iY:(rowsOf th tr (.pair c d)).length<=(rowsOf th tr q).length * (tr n).length:=by show(pairs _ _).length<=_;rw [pairs_len];exact mQ
 have pC:okQ th (.pair c d):=⟨tj,iS,fI⟩;have E4:depth (.pair c d)<=max (depth q) 5 + 1:=by show max _ _ + 1<=_;lia
 have xH:Un2 th tr q n (.pair c d):=⟨pC,gX,iY,by lia,by lia,λ_=>nofun,λh hp=>⟨(hV h).1,(hV h).2,wP mQ hp⟩⟩;have xI:∀r∈ds,r.2.length=(zd th c ++ zd th d).length:=λr m=>jG TT pC r.2 (by rw [<-tG];exact qe.mpr ⟨_,m,rfl⟩)
 have E5:ds.length<=1000000:=by lia
 have tH:(refs ds).length=ds.length:=w9 _;have tI:a∈zd th c ++ zd th d:=wZ _ ma;have tJ:b∈zd th c ++ zd th d:=wA _ mb;have tK:=s4.trans ff;have asPair:∀(σ:St) {J:Hp},zw H9 J->∀sp,J sp=none->Q (.ref sp) (upd J sp (.tup [.ref pp,.str (zx (.pair c d)),.ref hp,.ref D])):=λσ J mO sp ao=>by
  have bN:=zB ao (.tup [.ref pp,.str (zx (.pair c d)),.ref hp,.ref D]);have G:=mO.trans bN;exact fin _ (.pair c d) _ (tK.trans G) ⟨sp,_,hp,D,ds,rfl,zj,pB.same G,G _ _ (n9 _ _ x8),iX.same G,tG⟩ xH
 refine !(ex2 rfl rfl ⟨(by show(0:Int) < 4;decide),rfl,!?_⟩);refine yT (λZ=> ?_) (λZ=> ?_)
 ·exact !(!(!(!⟨(zA rfl),λsp ao=>asPair [] (zw.refl _) sp ao⟩)))
 have ia:=jh tI;have ib:=jh tJ;have iZ:=n9 _ _ x8;refine !⟨.inl ⟨rfl,_,SqL.of iZ⟩,!⟨hp,_,_,(zd th c ++ zd th d).idxOf a,rfl,rfl,SqL.of iZ,rfl,zT _,ia.1,ia.2,?_⟩⟩;refine !⟨.inl ⟨rfl,_,SqL.of iZ⟩,!⟨hp,_,_,(zd th c ++ zd th d).idxOf b,rfl,rfl,SqL.of iZ,rfl,zT _,ib.1,ib.2,?_⟩⟩;refine !⟨D,rfl,⟨_,SqL.of iX.1⟩,?_⟩;refine z0t (xs:=refs ds) (λi ys H'=>H'=H9/\ys=refs ((ds.take i).filter λr=>decide (r.2.getD ((zd th c ++ zd th d).idxOf a) 0=r.2.getD ((zd th c ++ zd th d).idxOf b) 0))) ⟨rfl,rfl⟩ ?_ ?_ ?_
 ·rintro i ys H' hi ⟨rfl,rfl⟩;refine⟨SqL.of iX.1,zE ?_⟩;have:=qh (λr:Addr×List Int=>decide (r.2.getD ((zd th c ++ zd th d).idxOf a) 0=r.2.getD ((zd th c ++ zd th d).idxOf b) 0)) (ds.take i);rw [w9];rw [wK]at this
  lia
 ·rintro i x ys H' hi ⟨rfl,rfl⟩;have X:i < ds.length:=by
   have:=(we.mp hi).1
   rwa [tH]at this
  rw [jZ X]at hi;cases hi;have aZ:=(iX.2 _ (wu X)).2;have wl:=xI _ (wu X);have ft:=z0J (λr:Addr×List Int=>decide (r.2.getD ((zd th c ++ zd th d).idxOf a) 0=r.2.getD ((zd th c ++ zd th d).idxOf b) 0)) ds (wa X);refine !(!(zu aZ (zW (int_at (z9d tI wl))) (!(!(zu aZ (zW (int_at (z9d tJ wl))) ⟨rfl,!?_⟩)))));rw [z2Q];refine yT (λhc=> ?_) (λhc=> ?_)
  ·refine !⟨rfl,?_⟩;rw [ft,wY hc];simp [refs]
  ·refine⟨rfl,?_⟩;rw [ft,wM hc,Ql]
 rintro ys H' ⟨rfl,rfl⟩ np ai;rw [tH,qc];refine zg (upd _ np _) rfl ai λJ bn aa=> ?_
 have rc:=yl ai bn aa λr m=>(iX.2 r (Qf.mp m).1).2
 have fe:(ds.filter λr=>decide (r.2.getD ((zd th c ++ zd th d).idxOf a) 0=r.2.getD ((zd th c ++ zd th d).idxOf b) 0)).map (·.2)=rowsOf th tr (.join a b c d):=by
  show _=List.filter _ (pairs _ _)
  rw [<-R,QK]
  rfl
 have tM:(rowsOf th tr (.join a b c d)).length<=(rowsOf th tr q).length * (tr n).length:=wP (qh _ _) iY;generalize (ds.filter λr=>decide (r.2.getD ((zd th c ++ zd th d).idxOf a) 0=r.2.getD ((zd th c ++ zd th d).idxOf b) 0))=fs at aa rc fe;refine !⟨(zA rfl),λep ar=> ?_⟩;refine zg (upd _ ep _) rfl ar λaq bN as=> ?_
 refine⟨np,ep,!⟨rfl,SqL.of (bN _ _ aa),SqL.of as,!⟨_,(!(ex2 rfl rfl ⟨(by show(0:Int) < 5;decide),ex2 rfl rfl (!⟨rfl,rfl⟩)⟩)),?_⟩⟩⟩;have G:=bn.trans bN;refine yT (λeU=> ?_) (λeU=> ?_)
 ·exact !(!(!(!⟨(zA rfl),λsp ao=>asPair [] G sp ao⟩)))
 refine !?_;have tN:=G _ _ (n9 _ _ a8);have tO:=G _ _ (n9 _ _ b8);have pD:=ff.trans G;refine⟨λσ B=>∃(qv:V) (q':Qn),σ= [some v,some (.ref tp),some (.int a7),some (.ref p1),some (.ref p2),some (.ref hp),some (.ref np),o7,S,some (.str a),some (.str b),some (.str (zx q')),some qv,some (.int (((zd th c ++ zd th d).idxOf a:Nat):Int)),some (.int (((zd th c ++ zd th d).idxOf b:Nat):Int)),some (.ref np)]/\zw aq B/\QAt B q' qv/\zd th q'=zd th c ++ zd th d/\rowsOf th tr q'=rowsOf th tr (.join a b c d)/\Un2 th tr q n q',?_,?_⟩
 ·refine !(ex2 rfl rfl ⟨(by show(0:Int) < 4;decide),rfl,!?_⟩);refine yT (λhc=> ?_) (λhc=> ?_)
  ·refine !(ex2 rfl rfl ⟨by(walk_at "sl"),ex2 rfl rfl ⟨by(walk_at "sl"),!(ex2 rfl rfl ⟨by(walk_at "sl"),ex2 rfl rfl ⟨by(walk_at "sl"),!(zh tN j8 (ex2 rfl rfl ⟨by(walk_at "sl"),ex2 rfl rfl ⟨by(walk_at "sl"),!(zh tO j8 (ex2 rfl rfl ⟨by(walk_at "sl"),ex2 rfl rfl ⟨by(walk_at "sl"),?_⟩⟩))⟩⟩))⟩⟩)⟩⟩);refine !(!(!(zh tN zH (!(zh tO zH ⟨(zA rfl),λY O=> ?_⟩)))));refine zg (upd _ Y _) rfl O λB n12 L=> ?_
   have l7:=pD.trans n12;refine⟨_,.join a b c d,rfl,n12,⟨Y,h9,bT,rfl,L,a2.same l7,b2.same l7⟩,rfl,rfl,⟨ma,mb,tj,iS,fI⟩,gX,tM,?_,?_,λ_=>nofun,λh hp=>⟨(hV h).1,(hV h).2,wP mQ hp⟩⟩
   ·simp only [zx];(walk_at "sl")
   ·show max _ _ + 1<=_;lia
  ·refine !(ex2 rfl rfl ⟨(by show(0:Int) < 4;decide),rfl,!?_⟩);have pE:∀{x y:Str} (U:(x=b/\y=a)\/(x=a/\y=b)),rowsOf th tr (.pick (.same (.nm x) (.nm y)) (.pair c d))=rowsOf th tr (.join a b c d):=λ{x y} U=>by
    show List.filter _ (pairs _ _)=List.filter _ (pairs _ _)
    refine w0g λz _=> ?_
    rcases U with⟨rfl,rfl⟩ | ⟨rfl,rfl⟩
    ·show decide (z.getD ((zd th c ++ zd th d).idxOf _) 0=z.getD ((zd th c ++ zd th d).idxOf _) 0)=_
     exact w1e.mpr eq_comm
    ·rfl
   have mk:∀{x y:Str} (U:(x=b/\y=a)\/(x=a/\y=b)),Un2 th tr q n (.pick (.same (.nm x) (.nm y)) (.pair c d)):=λ{x y} U=>by
    have mx:x∈zd th c ++ zd th d:=by rcases U with⟨rfl,rfl⟩ | ⟨rfl,rfl⟩ <;> assumption
    have my:y∈zd th c ++ zd th d:=by rcases U with⟨rfl,rfl⟩ | ⟨rfl,rfl⟩ <;> assumption
    have lx:x.length<=10:=by rcases U with⟨rfl,rfl⟩ | ⟨rfl,rfl⟩ <;> assumption
    have ly:y.length<=10:=by rcases U with⟨rfl,rfl⟩ | ⟨rfl,rfl⟩ <;> assumption
    refine⟨⟨⟨mx,my⟩,by simp [Cond.size],pC⟩,gX,by rw [pE U];exact tM,?_,?_,λ_=>nofun,λh hp=>⟨(hV h).1,(hV h).2,wP mQ hp⟩⟩
    ·simp only [zx,yq,ends,Side.txt];simp only [zx]at xG;(walk_at "sl")
    ·show depth (.pair c d) + 1<=_;lia
   have line:∀x y:Str,("(pick (same " ++ x ++ " " ++ y ++ ") " ++ zx (.pair c d) ++ ")":Str)=zx (.pick (.same (.nm x) (.nm y)) (.pair c d)):=λx y=>by
    have e:zx (.pick (.same (.nm x) (.nm y)) (.pair c d))=("(pick ":Str) ++ ("(" ++ "same" ++ " " ++ (x ++ " " ++ y) ++ ")") ++ " " ++ zx (.pair c d) ++ ")":=rfl;rw [e];have e1:("(pick (same ":Str)=("(pick ":Str) ++ ("(" ++ "same" ++ " "):=by decide +kernel
    have e2:(") ":Str)=(")":Str) ++ " ":=by decide +kernel
    rw [e1,e2];simp only [Str.append_assoc]
   have xJ:(zx (.pair c d)).length<=4000310:=by lia
   refine yT (λcJ=> ?_) (λcJ=> ?_)
   ·refine !(ex2 rfl rfl ⟨by(walk_at "sl"),ex2 rfl rfl ⟨by(walk_at "sl"),!(ex2 rfl rfl ⟨by(walk_at "sl"),ex2 rfl rfl ⟨by(walk_at "sl"),!⟨_,zx (.pair c d),rfl,rfl,by(walk_at "sl"),ex2 rfl rfl ⟨by(walk_at "sl"),?_⟩⟩⟩⟩)⟩⟩);refine !(!⟨(zA rfl),λcp bx=> ?_⟩);refine zg (upd _ cp _) rfl bx λB n12 L=> ?_
    refine !⟨(zA rfl),λY O=> ?_⟩;refine zg (upd _ Y _) rfl O λap N I=> ?_
    refine⟨_,.pick (.same (.nm b) (.nm a)) (.pair c d),by rw [<-line];rfl,n12.trans N,⟨Y,_,!⟨I,⟨cp,rfl,N _ _ L⟩,pB.same (G.trans (n12.trans N))⟩⟩,rfl,pE (.inl ⟨rfl,rfl⟩),mk (.inl ⟨rfl,rfl⟩)⟩
   ·refine !(ex2 rfl rfl ⟨by(walk_at "sl"),ex2 rfl rfl ⟨by(walk_at "sl"),!(ex2 rfl rfl ⟨by(walk_at "sl"),ex2 rfl rfl ⟨by(walk_at "sl"),!⟨_,zx (.pair c d),rfl,rfl,by(walk_at "sl"),ex2 rfl rfl ⟨by(walk_at "sl"),?_⟩⟩⟩⟩)⟩⟩);refine !(!⟨(zA rfl),λcp bx=> ?_⟩);refine zg (upd _ cp _) rfl bx λB n12 L=> ?_
    refine !⟨(zA rfl),λY O=> ?_⟩;refine zg (upd _ Y _) rfl O λap N I=> ?_
    refine⟨_,.pick (.same (.nm a) (.nm b)) (.pair c d),by rw [<-line];rfl,n12.trans N,⟨Y,_,!⟨I,⟨cp,rfl,N _ _ L⟩,pB.same (G.trans (n12.trans N))⟩⟩,rfl,pE (.inr ⟨rfl,rfl⟩),mk (.inr ⟨rfl,rfl⟩)⟩
 rintro σ B ⟨qv,q',rfl,tP,pG,eh,er,pH⟩;refine !(!(!(!⟨(zA rfl),λsp ao=> ?_⟩)));refine zg (upd _ sp _) rfl ao λap N I=> ?_
 have l8:=G.trans (tP.trans N);refine fin _ q' _ (tK.trans l8) ⟨sp,qv,hp,np,fs,rfl,I,pG.same N,by rw [eh];exact l8 _ _ iZ,(rc.same bN).same (tP.trans N),by rw [fe,er]⟩ pH
noncomputable def z1G(hs:List Str)(n:Str):List Str:=if n="tuvtuvtuvw" then z2l else if n="tuvtuvtuvx" then(["e"]:List Str)else hs
noncomputable def z39(r0 r1 r2 r3:List (List Int))(n:Str):List (List Int):=if n="t" then r0 else if n="tuvtuvtuvw" then r1 else if n="tuvtuvtuvx" then r2 else r3
theorem tabs_ok{m:Nat}{r0 r1 r2 r3:List (List Int)}(h:2<=m)(d:m<=12)(l0:∀r∈r0,r.length=(jc.take m).length)(l1:∀r∈r1,r.length=2)(l2:∀r∈r2,r.length=1)(a:∀r∈r3,r.length=(jc.take m).length)(e:r0.length<=60)(c:r1.length<=10)(f:r2.length<=10)(b:r3.length=3):
  TabOk (z1G (jc.take m)) (z39 r0 r1 r2 r3) where
 t:=⟨m,h,d,by unfold z1G;rw [wM (by decide +kernel),wM (by decide +kernel)]⟩
 w:=by unfold z1G;rw [wY rfl]
 x:=by unfold z1G;rw [wM (by decide +kernel),wY rfl]
 z:=by unfold z1G;rw [wM (by decide +kernel),wM (by decide +kernel),wM (by decide +kernel),wM (by decide +kernel)]
 rl:=λn hn=>by
  simp only [tabs,wG,qi,QG]at hn;rcases hn with rfl | rfl | rfl | rfl
  ·unfold z1G z39;rw [wY rfl,wM (by decide +kernel),wM (by decide +kernel)];exact l0
  ·unfold z1G z39;rw [wM (by decide +kernel),wY rfl,wY rfl];exact l1
  ·unfold z1G z39;rw [wM (by decide +kernel),wM (by decide +kernel),wY rfl,wM (by decide +kernel),wY rfl];exact l2
  ·unfold z1G z39;rw [wM (by decide +kernel),wM (by decide +kernel),wM (by decide +kernel),wM (by decide +kernel),wM (by decide +kernel)];exact a
 ct:=by unfold z39;rw [wY rfl];exact e
 cw:=by unfold z39;rw [wM (by decide +kernel),wY rfl];exact c
 cx:=by unfold z39;rw [wM (by decide +kernel),wM (by decide +kernel),wY rfl];exact f
 cz:=by unfold z39;rw [wM (by decide +kernel),wM (by decide +kernel),wM (by decide +kernel)];exact b
def jq(th:Str->List Str)(tr:Str->List (List Int))(H:Hp)(p:Addr):Prop:=∃v0 v1 v2 v3,H p=some (.lst [v0,v1,v2,v3])/\TabAt th tr H v0 "t"/\TabAt th tr H v1 "tuvtuvtuvw"/\TabAt th tr H v2 "tuvtuvtuvx"/\TabAt th tr H v3 "tuvz"
theorem jq.same(h:jq th tr H p)(e:zw H H'):jq th tr H' p:=by
 obtain⟨v0,v1,v2,v3,h0,a,b,c,d⟩:=h;exact⟨v0,v1,v2,v3,e _ _ h0,a.same e,b.same e,c.same e,d.same e⟩
inductive spStocked (K:W.Frag) (vs:List V) (H:Hp) (Q:VK) (E:XK):Prop
 | mk:∀cp (ns:List Int) more,vs= [.ref cp,.int more]->SqL K H cp (ns.map V.int)->ns.length<=18->0<=more->more<=48->(∀(p:Addr) (th:Str->List Str) (tr:Str->List (List Int)) (H':Hp),zw H H'->TabOk th tr->jq th tr H' p->Q (.ref p) H')->spStocked K vs H Q E
def z87{t:TT}{σ:St}{Q:Bool->Hp->Prop}(els:Q false H)(h:Q false H->t σ H Q):t σ H Q:=h els
noncomputable def twM(t:Nat):Nat:=if t=0 then 1 else if t=1 then 2 else 4
structure Gr(th:Str->List Str)(tr:Str->List (List Int))(i used twice:Nat)(q:Qn):Prop where
 ok:okQ th q
 rows:(rowsOf th tr q).length<=60
 line:(zx q).length<=2400 * (i + 1) * twM twice
 heads:∀x∈zd th q,x∈z0a i used
 dp:depth q<=5 + 2 * i
 sub:kh th tr q
 top:∀n,q= .table n->n="t":=by intro n e;cases e
theorem z3D{l:List α}{x:α}(h:x∈l.take i)(a:i<=j):x∈l.take j:=by
 have:l.take i=(l.take j).take i:=by rw [List.take_take,Nat.min_eq_left a]
 rw [this]at h;exact Qy h
theorem jv{x:Str}{u v:Nat}(h:x∈z0a i u)(a:i<=j)(b:u<=v):x∈z0a j v:=by
 unfold z0a at h ⊢;simp only [wB,qe]at h ⊢;rcases h with(((h | h) | h) | ⟨s,h,e⟩) | ⟨s,h,e⟩
 ·exact .inl (.inl (.inl (.inl h)))
 ·refine .inl (.inl (.inl (.inr ?_)));split at h
  ·rw [wY (by lia)];exact h
  ·cases h
 ·refine .inl (.inl (.inr ?_));split at h
  ·rw [wY (by lia)];exact h
  ·cases h
 ·exact .inl (.inr ⟨s,z3D h a,e⟩)
 ·exact .inr ⟨s,z3D h a,e⟩
theorem zdO:∀x∈z2l,x∉z0a 26 1:=by decide +kernel
theorem zdU:∀x∈(["e"]:List Str),x∉z0a 26 2:=by decide +kernel
theorem za3:∀i:Fin 26,(("n":Str) ++ signs.getD i.1 "":Str)∉z0a i.1 3/\(("s":Str) ++ signs.getD i.1 "":Str)∉z0a i.1 3:=by decide +kernel
theorem z4G:(z0a 26 3).length<=100:=by decide +kernel
theorem wIn:∀x∈z2l,x∈z0a 0 2:=by decide +kernel
theorem eIn:∀x∈(["e"]:List Str),x∈z0a 0 3:=by decide +kernel
theorem lIn:∀x∈jc,x∈z0a 0 1:=by decide +kernel
noncomputable def zbW:Str:="abcdefghijklmnopqrstuvwxyz"
theorem zcH:∀i:Fin 26,(zbW.cps.toList[i.1]?).map (λc=>(⟨#[c]⟩:Str))=some (signs.getD i.1 ""):=by decide +kernel
theorem zb8:zbW.length<=sizeLine:=jb (by decide +kernel)
theorem zcW(h:i < 26):∃c,atI zbW.cps.toList (0 + (i:Int))=some c/\(⟨#[c]⟩:Str)=signs.getD i "":=by
 have:=zcH ⟨i,h⟩;cases e:zbW.cps.toList[i]? with
 | none=>rw [e]at this;cases this
 | some c=>
  rw [e]at this;refine⟨c,?_,Option.some.inj this⟩;rw [w0N];exact zW e
theorem z3i(h:i < 26):signs.getD i ""∈signs:=by
 rw [wb,wa (by show i < 26;exact h)];exact wu _
theorem z5y(h:i < 26):signs.getD i ""∈signs.take (i + 1):=by
 have hl:i < signs.length:=h;rw [wb,wa hl,wQ,wa hl];exact wA _ (wx.mpr rfl)
section
variable{used twice:Nat}
theorem kB(t:Nat):1<=twM t/\twM t<=4:=by unfold twM;split <;> (try split) <;> lia
theorem kO{a b m:Nat}(h:a<=2400 * (i + 1) * m)(hm:1<=m)(c:b<=a + 2400):b<=2400 * (i + 1 + 1) * m:=by
 have:2400 * (i + 1 + 1) * m=2400 * (i + 1) * m + 2400 * m:=by rw [QT 2400 (i + 1) 1,w1l,w1C]
 lia
theorem Gr.big(g:Gr th tr i used twice q)(hi:i<=24):(zx q).length<=240000:=by
 have h:=g.line;have m:=(kB twice).2;have:2400 * (i + 1) * twM twice<=2400 * 25 * 4:=w1c (Qr _ (by lia)) m
 lia
def Gr.wide(T:TabOk th tr)(g:Gr th tr i used twice q)(hi:i<=26)(a:used<=3):(zd th q).length<=100:=
 wP (yZ (jB T g.ok).2 λx b=>jv (g.heads x b) hi a) z4G
theorem Gr.pick(T:TabOk th tr)(g:Gr th tr i used twice q)(a:jA (zd th q) c)(sz:c.size<=6):Gr th tr (i + 1) used twice (.pick c q) where
 ok:=⟨a,sz,g.ok⟩
 rows:=wP (qh _ _) g.rows
 line:=kO g.line (kB _).1 (by have:=z4w (j7 T g.ok) a sz;lia)
 heads:=λx b=>jv (g.heads x b) (by lia) (ww _)
 dp:=by have:=g.dp;show depth q + 1<=_;lia
 sub:=g.sub
theorem Gr.cols(T:TabOk th tr)(g:Gr th tr i used twice q)(hi:i<=24)(a:used<=3)(ne:ns≠ [])(nd:ns.Nodup)(sub:∀n∈ns,n∈zd th q):Gr th tr (i + 1) used twice (.cols ns q) where
 ok:=⟨ne,nd,sub,g.ok⟩
 rows:=by show(List.map _ _).length<=_;rw [w9];exact g.rows
 line:=kO g.line (kB _).1 (by
  have c:=z4d λn hn=>j7 T g.ok n (sub n hn)
  have wl:=g.wide T (by lia) a;have d:=yZ nd sub;simp only [zx]
  (walk_at "sl"))
 heads:=λx b=>jv (g.heads x (sub x b)) (by lia) (ww _)
 dp:=by have:=g.dp;show depth q + 1<=_;lia
 sub:=g.sub
theorem Gr.sort(T:TabOk th tr)(g:Gr th tr i used twice q)(m:n∈zd th q):Gr th tr (i + 1) used twice (.sort n q) where
 ok:=⟨m,g.ok⟩
 rows:=by show(yX _ _).length<=_;rw [z3l];exact g.rows
 line:=kO g.line (kB _).1 (by
  have:=j7 T g.ok n m;simp only [zx]
  (walk_at "sl"))
 heads:=λx a=>jv (g.heads x a) (by lia) (ww _)
 dp:=by have:=g.dp;show depth q + 1<=_;lia
 sub:=g.sub
theorem Gr.first(g:Gr th tr i used twice q){n:Int}(m:n∈z0j):Gr th tr (i + 1) used twice (.first n q) where
 ok:=⟨m,g.ok⟩
 rows:=by show(List.take _ _).length<=_;rw [wK];have:=g.rows;lia
 line:=kO g.line (kB _).1 (by
  have:=(z09 n m).1;simp only [zx]
  (walk_at "sl"))
 heads:=λx a=>jv (g.heads x a) (by lia) (ww _)
 dp:=by have:=g.dp;show depth q + 1<=_;lia
 sub:=g.sub
theorem Gr.firsts(g:Gr th tr i used twice q){n a:Int}(m:n∈z0j)(b:a∈z0j):Gr th tr (i + 1) used twice (.first a (.first n q)) where
 ok:=⟨b,m,g.ok⟩
 rows:=by show(List.take _ (List.take _ _)).length<=_;rw [wK,wK];have:=g.rows;lia
 line:=kO g.line (kB _).1 (by
  have:=(z09 n m).1;have:=(z09 a b).1;simp only [zx]
  (walk_at "sl"))
 heads:=λx c=>jv (g.heads x c) (by lia) (ww _)
 dp:=by have:=g.dp;show depth q + 1 + 1<=_;lia
 sub:=g.sub
theorem Gr.group(T:TabOk th tr)(g:Gr th tr i used twice q)(hi:i < 26)(f:used<=3){a b:Str}(c:a∈zd th q)(mb:b∈zd th q):Gr th tr (i + 1) used twice (.group a b (("n":Str) ++ signs.getD i "") (("s":Str) ++ signs.getD i "") q) where
 ok:=by
  have ps:=za3 ⟨i,hi⟩;have d:a∈z0a i 3:=jv (g.heads a c) (ww _) f;exact⟨c,mb,⟨_,z3i hi,rfl,rfl⟩,λz=>ps.1 (z ▸ d),λz=>ps.2 (z ▸ d),g.ok⟩
 rows:=by
  show((jL _ _).map _).length<=_
  rw [w9];exact wP (z3a _) g.rows
 line:=kO g.line (kB _).1 (by
  have:=j7 T g.ok a c;have:=j7 T g.ok b mb;have:=z2G _ (z3i hi);simp only [zx]
  (walk_at "sl"))
 heads:=λx h=>by
  have e:x∈ [a,(("n":Str) ++ signs.getD i "":Str),(("s":Str) ++ signs.getD i "":Str)]:=h;simp only [wG,qi,QG]at e;rcases e with rfl | rfl | rfl
  ·exact jv (g.heads _ c) (by lia) (ww _)
  ·unfold z0a;exact wZ _ (wA _ (qe.mpr ⟨_,z5y hi,rfl⟩))
  ·unfold z0a;exact wA _ (qe.mpr ⟨_,z5y hi,rfl⟩)
 dp:=by have:=g.dp;show depth q + 1<=_;lia
 sub:=g.sub
theorem z5P{a b c m d:Nat}(h1:a<=2400 * (i + 1) * m)(f:b<=a + 1000)(hc:c<=a + b + 100)(hm:1<=m)(h2:d=2 * m):c<=2400 * (i + 1 + 1) * d:=by
 have e:2400 * (i + 1 + 1) * d=2 * (2400 * (i + 1) * m) + 2 * (2400 * m):=by
  rw [h2,QT 2400 (i + 1) 1,w1l,w1C,Nat.mul_left_comm (2400 * (i + 1)) 2 m,Nat.mul_left_comm 2400 2 m]
 lia
theorem Gr.both(T:TabOk th tr)(g:Gr th tr i used twice q)(ht:twice < 2){r:Qn}(f:okQ th r)(b:zd th r=zd th q)(d:(zx r).length<=(zx q).length + 1000)(c:(rowsOf th tr q).length + (rowsOf th tr r).length<=60)(j:depth r<=depth q + 1)(h:kh th tr r)(e:q'= .both q r\/q'= .both r q):Gr th tr (i + 1) used (twice + 1) q':=by
 have hm:twM (twice + 1)=2 * twM twice:=by
  have:twice=0\/twice=1:=by lia
  rcases this with rfl | rfl <;> rfl
 have l:=g.dp;rcases e with rfl | rfl
 ·exact⟨⟨b.symm,g.ok,f⟩,by show(rowsOf th tr q ++ rowsOf th tr r).length<=_;rw [wg];exact c,z5P g.line d (by simp only [zx];(walk_at "sl")) (kB _).1 hm,λx a=>jv (g.heads x a) (by lia) (ww _),by show max _ _ + 1<=_;lia,⟨g.sub,h,c⟩,λ_=>nofun⟩
 ·exact⟨⟨b,f,g.ok⟩,by show(rowsOf th tr r ++ rowsOf th tr q).length<=_;rw [wg,Nat.add_comm];exact c,z5P g.line d (by simp only [zx];(walk_at "sl")) (kB _).1 hm,λx a=>jv (g.heads x (by rw [<-b];exact a)) (by lia) (ww _),by show max _ _ + 1<=_;lia,⟨h,g.sub,by lia⟩,λ_=>nofun⟩
theorem Gr.unite(g:Gr th tr i used twice q)(u:Un2 th tr q n q')(hn:∀x∈th n,x∈z0a 0 (used + 1))(hl:(rowsOf th tr q).length * (tr n).length<=30):Gr th tr (i + 1) (used + 1) twice q' where
 ok:=u.ok
 rows:=wP u.ln (by lia)
 line:=kO g.line (kB _).1 (by have:=u.li;lia)
 heads:=λx a=>by
  have h1:∀x∈zd th q,x∈z0a (i + 1) (used + 1):=λx a=>jv (g.heads x a) (by lia) (by lia)
  have h2:∀x∈th n,x∈z0a (i + 1) (used + 1):=λx a=>jv (hn x a) (by lia) (ww _)
  rcases u.hd with e | e
  ·rw [e]at a;exact(wB.mp a).elim (h1 x) (h2 x)
  ·rw [e]at a;exact(wB.mp a).elim (h2 x) (h1 x)
 dp:=by have:=u.dp;have:=g.dp;lia
 sub:=u.sub g.sub (by lia)
 top:=λm e=>absurd e (u.nt m)
end
inductive spGrown (K:W.Frag) (vs:List V) (H:Hp) (Q:VK) (E:XK):Prop
 | mk:∀cp tp (ns:List Int) th tr,vs= [.ref cp,.ref tp]->SqL K H cp (ns.map V.int)->ns.length<=24->TabOk th tr->jq th tr H tp->(∀(v':V) (q:Qn) (used twice:Nat) (H':Hp),zw H H'->yL th tr H' v' q->Gr th tr ns.length used twice q->used<=3->twice<=2->Q v' H')->spGrown K vs H Q E
theorem zJ:FnScope ["_law_cells","_law_tables","_law_state","_law_used","_law_twice","_law_k","_law_seed","_law_turn"] ["_law_cells","_law_tables"] (zi z1i):=by walk_at "s"
set_option maxHeartbeats 1600000 in
theorem z4U(F:Fun K "_law_grown" "_law_grown" z1i f fd)(T:Txt K mg)(y:Kn P w K mg base 8 "_law_picked" ["_law_state","_law_seed"] (spPicked K))(j:Kn P w K mg base 1 "_law_columns" ["_law_state","_law_seed"] (spColumns K))(u:Kn P w K mg base 2 "_law_united" ["_law_state","_law_table","_law_seed"] (spUnited K))
  (B:Kn P w K mg base 1 "_law_beside" ["_law_state","_law_table","_law_seed"] (spBeside K)) (o:Kn P w K mg base 9 "_law_doubled" ["_law_state","_law_seed"] (spDoubled K)) (s:Kn P w K mg base 1 "_law_headed" ["_law_state","_law_seed"] (spHeaded K)) (l:Kn P w K mg base 1 "_law_counted" ["_law_state","_law_seed","_law_sign"] (spCounted K)) (z:Kn P w K mg base 1 "_law_sorted" ["_law_state","_law_seed"] (spSorted K)):
  FnOk P w K mg base CX0 10 f fd ["_law_cells","_law_tables"] (spGrown K):=by
 refine F.okB zJ (λvs H Q E h=> ?_) (λvs H Q E h=> ?_)
 ·obtain⟨cp,tp,ns,th,tr,rfl,_⟩:=h
  rfl
 obtain⟨cp,tp,ns,th,tr,rfl,hS,hn,TT,h4,fin⟩:=h;have fc:(ns.map V.int).length=ns.length:=w9 _;intro ac A outer sh hr;have hu:=z3w hr;refine⟨_,(zc (seT 2 zJ (zG (zZ (zG (zt zo (zt zo ze))) (zt zo (zm (ixT (ixL v1 za) za) (zm (ixT (ixL v1 za) za) ze))))))
  (zc (seT 3 zJ za)
  (zc (seT 4 zJ za)
  (zc (foR (yj rfl T.range (zO (leN T.len (zb v0 ze)) ze)) (gnM 5 zJ)
   (zc (seT 6 zJ (zp yy (zp yc (ixL v0 v5) za) v5))
   (zc (seT 7 zJ (zp zU (zp yy (ixL v0 v5) (zp z4q za v5)) za))
   (zf (zD (cmT z5L (pv 7) za)
    (zf (seT 2 zJ (zQ y hr.m (zb v2 (zb (pv 6) ze)))))
    (zf (zD (cmT zM (pv 7) za)
     (zf (seT 2 zJ (zQ j hr.m (zb v2 (zb (pv 6) ze)))))
     (zf (zD (PW.pt (z1K (cmT zM (pv 7) za) (z1K (cmT z5L v3 za) (z26 (cmT zdD (zp z4q (leN T.len (zm (ixT v2 za) ze)) (leN T.len (zm (ixT (ixL v1 v3) za) ze))) za)))))
      (zc (seT 2 zJ (zQ u hr.m (zb v2 (zm (ixL v1 v3) (zb (pv 6) ze)))))
      (zf (seT 3 zJ (zp yy v3 za))))
      (zf (zD (PW.pt (z1K (cmT zM (pv 7) za) (z1K (cmT z5L v4 za) (z26 (cmT zdD (leN T.len (zm (ixT v2 za) ze)) (zp z3b za (zp z4q za v4)))))))
       (zc (zD (z2P (cmT (zai hu) (ixT v2 za) (ixT (ixL v1 za) za)) (cmT zM (zp zU (pv 6) za) za))
        (zf (seT 2 zJ (zQ B hr.m (zb v2 (zm (ixL v1 za) (zb (pv 6) ze))))))
        (zf (seT 2 zJ (zQ o hr.m (zb v2 (zb (pv 6) ze))))))
       (zf (seT 4 zJ (zp yy v4 za))))
       (zf (zD (cmT zM (pv 7) za)
        (zf (seT 2 zJ (zQ s hr.m (zb v2 (zb (pv 6) ze)))))
        (zf (zD (cmT zM (pv 7) za)
         (zf (seT 2 zJ (zQ l hr.m (zb v2 (zb (pv 6) (zm (yw zea zo v5 (λ_ _=>rfl)) ze))))))
         (zf (seT 2 zJ (zQ z hr.m (zb v2 (zb (pv 6) ze))))))))))))))))))))
  (zf (zr v2)))))),?_⟩
 generalize hK0:K=K1
 revert K1
 refine jj (by walk_at "cl") ?_;obtain⟨v0,v1,v2,v3,f0,t0,t1,t2,t3⟩:=id h4;obtain⟨p0,fE,oY,xK,rfl,a1,a3,a4,a5⟩:=t0;refine⟨(zA rfl),λqp bB=> ?_⟩;refine zg (upd _ qp _) rfl bB λH1 R x1=> ?_
 refine !(zu (R _ _ f0) zH (zh (R _ _ a1) j8 (!(zu (R _ _ f0) zH (zh (R _ _ a1) jz ⟨(zA rfl),λsp ao=> ?_⟩)))));refine zg (upd _ sp _) rfl ao λH2 n2 x2=> ?_
 have s2:=R.trans n2;have bc:yL th tr H2 (.ref sp) (.table "t"):=⟨sp,_,fE,oY,xK,rfl,x2,⟨qp,rfl,n2 _ _ x1⟩,s2 _ _ a3,a4.same s2,a5⟩;have tt:("t":Str)∈tabs:=qy;have g2:Gr th tr 0 1 0 (.table "t"):=by
  refine⟨tt,TT.ct,?_,λx M=> ?_,by decide,TT.ct,λn e=>by cases e;rfl⟩
  ·have:(zx (.table "t")).length<=10:=by decide +kernel
   have:twM 0=1:=rfl
   lia
  ·obtain⟨m,_,_,e⟩:=TT.t;have c6:x∈th "t":=M;rw [e]at c6;exact lIn x (Qy c6)
 refine !⟨cp,!⟨.inl (s2.seq hS),!⟨by lia,by rw [fc];lia,kR (lo:=0) (n:=(ns.map V.int).length) (λi σ H'=>∃(v:V) (q:Qn) (used twice:Nat) (o5 o6 Z:Option V),σ= [some (.ref cp),some (.ref tp),some v,some (.int (used:Int)),some (.int (twice:Int)),o5,o6,Z]/\zw H H'/\yL th tr H' v q/\Gr th tr i used twice q/\1<=used/\used<=3/\twice<=2)
  ⟨_,_,1,0,none,none,none,rfl,s2,bc,g2,by decide,by decide,by decide⟩ ?_ ?_⟩⟩⟩
 ·rintro i σ H3 hi ⟨v,q,used,twice,o5,o6,Z,rfl,C,I,d,J,G,w2⟩;rw [fc]at hi;have l9:i<=24:=by lia
  have aP:atI (ns.map V.int) (0 + (i:Int))=some (.int (ns.getD i 0)):=by
   rw [w0N];exact zW (int_at hi)
  generalize ns.getD i 0=c at aP
  have tQ:=C.seq hS;have big:=d.big l9;have rows:=d.rows;have wide:=d.wide TT (by lia) G;refine !(!⟨cp,_,_,!⟨rfl,tQ,aP,_,!⟨rfl,⟨by decide,by decide⟩,!⟨_,!⟨rfl,?_⟩⟩⟩⟩⟩);refine !(!⟨cp,_,_,!⟨rfl,tQ,aP,!⟨_,!⟨rfl,.inl ⟨by decide,by decide⟩,_,!⟨rfl,_,!⟨rfl,(by show(0:Int) < 9;decide),?_⟩⟩⟩⟩⟩⟩);refine !⟨_,!⟨rfl,!?_⟩⟩;refine yT (λb0=> ?_) (λb0=> ?_)
  ·refine !(!⟨th,tr,q,v,_,rfl,TT,I,d.ok,by lia,by lia,λv' c' H' s' D U sz=> ?_⟩);exact⟨v',_,used,twice,_,_,!⟨C.trans s',D,d.pick TT U sz,J,G,w2⟩⟩
  refine !⟨rfl,!?_⟩;refine yT (λb1=> ?_) (λb1=> ?_)
  ·refine !(!⟨th,tr,q,v,_,rfl,TT,I,d.ok,by lia,by lia,by lia,λv' xL H' s' D ne nd sub=> ?_⟩);exact⟨v',_,used,twice,_,_,!⟨C.trans s',D,d.cols TT l9 G ne nd sub,J,G,w2⟩⟩
  refine z87 (z83 ?els) (λels=> ?main)
  case main=>
   refine !⟨rfl,!?_⟩;refine yT (λb2=> ?_) (λb2=>els);refine !⟨_,!⟨rfl,!?_⟩⟩;refine yT (λL=> ?_) (λL=>els);have xM:(used:Int) < 3:=qA L;obtain⟨p,qv,hp,rp,rs,rfl,h1,h2,h3,hW,Y⟩:=id I;have pI:rs.length<=60:=by rw [<-Y,w9]at rows;exact rows
   obtain⟨tv,n,tR,ht,mn,xN,b7,E7⟩:∃(tv:V) (n:Str),atI [V.ref p0,v1,v2,v3] (used:Int)=some tv/\TabAt th tr H3 tv n/\n∈tabs/\(∀x∈zd th q,x∉th n)/\(∀x∈th n,x∈z0a 0 (used + 1))/\(tr n).length<=10:=by
    have:used=1\/used=2:=by lia
    rcases this with rfl | rfl
    ·refine⟨v1,_,j8,t1.same C,by simp [tabs],λx M O=> ?_,?_,TT.cw⟩
     ·rw [TT.w]at O;exact zdO x O (jv (d.heads x M) (by lia) (ww _))
     ·rw [TT.w];exact wIn
    ·refine⟨v2,_,jz,t2.same C,by simp [tabs],λx M O=> ?_,?_,TT.cx⟩
     ·rw [TT.x]at O;exact zdU x O (jv (d.heads x M) (by lia) (ww _))
     ·rw [TT.x];exact eIn
   obtain⟨tS,mM,iN,ts,rfl,c1,c3,c4,c5⟩:=id ht;have xO:ts.length=(tr n).length:=by rw [<-c5,w9]
   have S:=C _ _ f0;refine !(zh h1 z0Q ⟨rp,!⟨.inl (SqL.of hW.1),!(!(zu S tR (zh c1 jz ⟨iN,!⟨.inl (SqL.of c4.1),_,!⟨rfl,.inl ⟨by rw [w9];lia,by rw [w9];lia⟩,_,!⟨rfl,!?_⟩⟩⟩⟩)))⟩⟩);refine yT (λN=> ?_) (λN=>els);have X:=qA N;rw [w9,w9,xO]at X;have b5:(rowsOf th tr q).length * (tr n).length<=30:=by
    rw [<-Y,w9]
    exact_mod_cast X
   have xP:(th n).length<=1000:=by
    have:used=1\/used=2:=by lia
    have:=yZ (TT.hd n mn).2 λx M=>jv (b7 x M) (qQ 26) (show used + 1<=3 by lia)
    have:=z4G
    lia
   refine !(!(!(zu S tR (!⟨th,tr,q,n,_,_,_,rfl,TT,I,d.ok,ht,mn,xN,by lia,by lia,by lia,by lia,xP,λv' q' H' s' D un=> ?_⟩))));refine !⟨_,!⟨rfl,?_⟩⟩;exact⟨v',q',used + 1,twice,_,_,!⟨C.trans s',D,d.unite un b7 b5,by lia,by lia,w2⟩⟩
  case els=>
   refine z87 (z83 ?els2) (λels=> ?main2)
   case main2=>
    refine !⟨rfl,!?_⟩;refine yT (λb2=> ?_) (λb2=>els);refine !⟨_,!⟨rfl,!?_⟩⟩;refine yT (λL=> ?_) (λL=>els);have xM:(twice:Int) < 2:=qA L;have tw2:twice < 2:=by lia
    obtain⟨p,qv,hp,rp,rs,rfl,h1,h2,h3,hW,Y⟩:=id I;refine !(zh h1 z0Q ⟨rp,!⟨.inl (SqL.of hW.1),!⟨_,!⟨rfl,.inl ⟨by decide,by decide⟩,_,!⟨rfl,_,!⟨rfl,!?_⟩⟩⟩⟩⟩⟩);refine yT (λN=> ?_) (λN=>els);have X:=qA N;rw [w9]at X;have b5:(rowsOf th tr q).length<=15:=by rw [<-Y,w9];lia
    have S:=C _ _ f0;obtain⟨p3,dA,sW,E8,rfl,d1,d3,d4,d5⟩:=id (t3.same C);refine !(zh h1 jz (!(zu S z0Q (zh d1 j8 ⟨hp,dA,_,!⟨rfl,SqL.of h3,SqL.of d3,zT _,zT _,!⟨_,(!⟨_,!⟨rfl,(by show(0:Int) < 3;decide),rfl,!⟨rfl,rfl⟩⟩⟩),?_⟩⟩⟩))));rw [z6I];refine yT (λb6=> ?_) (λb6=> ?_)
    ·rw [qZ]at b6;have eh:zd th q=th "tuvz":=qA b6.1;refine !(!(zu S z0Q (!⟨th,tr,q,"tuvz",_,_,_,rfl,I,t3.same C,eh,by decide +kernel,by lia,by lia,by rw [TT.cz];decide,λv' q' H' s' D e'=> ?_⟩)));refine !⟨_,!⟨rfl,?_⟩⟩;have mz:("tuvz":Str)∈tabs:=by simp [tabs]
     have lz:(zx (.table "tuvz")).length<=(zx q).length + 1000:=wP (show(zx (.table "tuvz")).length<=10 by decide +kernel) (by lia);have rz:(rowsOf th tr q).length + (rowsOf th tr (.table "tuvz")).length<=60:=by
      show _ + (tr "tuvz").length<=60
      rw [TT.cz];lia
     exact⟨v',q',used,twice + 1,_,_,!⟨C.trans s',D,d.both TT tw2 (r:= .table "tuvz") mz eh.symm lz rz (by show 1<=_;lia) (z7g TT _ mz) e',J,G,by lia⟩⟩
    ·refine !(!⟨th,tr,q,_,_,rfl,TT,I,d.ok,by lia,by lia,λv' q' c' H' s' D U sz e'=> ?_⟩);refine !⟨_,!⟨rfl,?_⟩⟩;have gp:=d.pick TT U sz;have rz:(rowsOf th tr q).length + (rowsOf th tr (.pick c' q)).length<=60:=by
      have:(rowsOf th tr (.pick c' q)).length<=(rowsOf th tr q).length:=qh _ _
      lia
     exact⟨v',q',used,twice + 1,_,_,!⟨C.trans s',D,d.both TT tw2 (r:= .pick c' q) gp.ok rfl (z4w (j7 TT d.ok) U sz) rz (by show depth q + 1<=_;lia) d.sub e',J,G,by lia⟩⟩
   case els2=>
    refine !⟨rfl,!?_⟩;refine yT (λb2=> ?_) (λb2=> ?_)
    ·refine !(!⟨th,tr,q,v,_,rfl,I,by lia,λv' q' H' s' D aG=> ?_⟩);obtain⟨m,mm,rfl | ⟨m',fb,rfl⟩⟩:=aG
     ·exact⟨v',_,used,twice,_,_,!⟨C.trans s',D,d.first mm,J,G,w2⟩⟩
     ·exact⟨v',_,used,twice,_,_,!⟨C.trans s',D,d.firsts mm fb,J,G,w2⟩⟩
    refine !⟨rfl,!?_⟩;refine yT (λL=> ?_) (λL=> ?_)
    ·obtain⟨ch,ec,es⟩:=zcW (i:=i) (by lia);have l1:=(z2G _ (z3i (i:=i) (by lia))).2.2;refine !(!(!⟨zbW,_,!⟨rfl,zb8,ec,th,tr,q,v,_,_,rfl,TT,I,d.ok,by rw [es];exact l1,by lia,by lia,λv' a b H' s' D ma mb=> ?_⟩⟩));rw [es]at D;exact⟨v',_,used,twice,_,_,!⟨C.trans s',D,d.group TT (by lia) G ma mb,J,G,w2⟩⟩
    ·refine !(!⟨th,tr,q,v,_,rfl,TT,I,d.ok,by lia,by lia,λv' n' H' s' D mn=> ?_⟩);exact⟨v',_,used,twice,_,_,!⟨C.trans s',D,d.sort TT mn,J,G,w2⟩⟩
 ·rintro σ H3 ⟨v,q,used,twice,o5,o6,Z,rfl,C,I,d,J,G,w2⟩;rw [fc]at d;exact !(fin v q used twice H3 C I d G w2)
theorem ints_snoc{zs:List Int}(h:zs.length=j):∃a:List Int,zs.map V.int ++ [V.int z]=a.map V.int/\a.length=j + 1:=
 ⟨zs ++ [z],by rw [wD];rfl,by rw [wg,h];rfl⟩
theorem zds{ns:List Int}(h:0 < ns.length):atI (ns.map V.int) (-1)=some (.int (ns.getD (ns.length - 1) 0)):=by
 have e:=int_at (xs:=ns) (i:=ns.length - 1) (by lia);have h2:ixN (ns.map V.int).length (-1)=some (ns.length - 1):=by
  unfold ixN;rw [wM (by decide),wY (by rw [w9];lia),w9]
  congr 1
  lia
 unfold atI;rw [h2];exact e
structure Stk(H H':Hp)(rp r0 r1 r2:Addr)(a b c:List (Addr×List Int))(hl:Nat):Prop where
 same:zw H H'
 top:H' rp=some (.lst [.ref r0,.ref r1,.ref r2])
 h0:RowsAt H' r0 a
 h1:RowsAt H' r1 b
 h2:RowsAt H' r2 c
 f0:H r0=none
 f1:H r1=none
 f2:H r2=none
 n01:r0≠r1
 n02:r0≠r2
 n12:r1≠r2
 np0:rp≠r0
 np1:rp≠r1
 np2:rp≠r2
 a0:∀r∈a,r.1≠r0/\r.1≠r1/\r.1≠r2
 a1:∀r∈b,r.1≠r0/\r.1≠r1/\r.1≠r2
 a2:∀r∈c,r.1≠r0/\r.1≠r1/\r.1≠r2
 w0:∀r∈a,r.2.length=hl
 w1:∀r∈b,r.2.length=2
 w2:∀r∈c,r.2.length=1
def Stk.new{b c:List (Addr×List Int)}(s:Stk H H' rp r0 r1 r2 a b c hl)(e:zw H' H1):Stk H H1 rp r0 r1 r2 a b c hl:=
 {s with same:=s.same.trans e,top:=e _ _ s.top,h0:=s.h0.same e,h1:=s.h1.same e,h2:=s.h2.same e}
def Stk.fresh{q:Addr}{b c:List (Addr×List Int)}(s:Stk H H' rp r0 r1 r2 a b c hl)(h:H' q=none):q≠r0/\q≠r1/\q≠r2:=
 ⟨(zq s.h0.1 h).symm,(zq s.h1.1 h).symm,(zq s.h2.1 h).symm⟩
theorem Stk.push0{q:Addr}{b c:List (Addr×List Int)}(s:Stk H H' rp r0 r1 r2 a b c hl)(hq:H' q=some (.lst (x.map V.int)))(d:q≠r0/\q≠r1/\q≠r2)(e:x.length=hl):
  Stk H (upd H' r0 (.lst (refs a ++ [V.ref q]))) rp r0 r1 r2 (a ++ [(q,x)]) b c hl where
 same:=s.same.put s.f0
 top:=by rw [zl s.np0];exact s.top
 h0:=s.h0.push d.1 hq
 h1:=s.h1.kp z2n s.n01.symm λr m=>(s.a1 r m).1
 h2:=s.h2.kp z2n s.n02.symm λr m=>(s.a2 r m).1
 f0:=s.f0
 f1:=s.f1
 f2:=s.f2
 n01:=s.n01
 n02:=s.n02
 n12:=s.n12
 np0:=s.np0
 np1:=s.np1
 np2:=s.np2
 a0:=λr m=>(wB.mp m).elim (s.a0 r) λm=>by rw [wx.mp m];exact d
 a1:=s.a1
 a2:=s.a2
 w0:=λr m=>(wB.mp m).elim (s.w0 r) λm=>by rw [wx.mp m];exact e
 w1:=s.w1
 w2:=s.w2
theorem Stk.push1{q:Addr}{b c:List (Addr×List Int)}(s:Stk H H' rp r0 r1 r2 a b c hl)(hq:H' q=some (.lst (x.map V.int)))(d:q≠r0/\q≠r1/\q≠r2)(e:x.length=2):
  Stk H (upd H' r1 (.lst (refs b ++ [V.ref q]))) rp r0 r1 r2 a (b ++ [(q,x)]) c hl where
 same:=s.same.put s.f1
 top:=by rw [zl s.np1];exact s.top
 h0:=s.h0.kp z2n s.n01 λr m=>(s.a0 r m).2.1
 h1:=s.h1.push d.2.1 hq
 h2:=s.h2.kp z2n s.n12.symm λr m=>(s.a2 r m).2.1
 f0:=s.f0
 f1:=s.f1
 f2:=s.f2
 n01:=s.n01
 n02:=s.n02
 n12:=s.n12
 np0:=s.np0
 np1:=s.np1
 np2:=s.np2
 a0:=s.a0
 a1:=λr m=>(wB.mp m).elim (s.a1 r) λm=>by rw [wx.mp m];exact d
 a2:=s.a2
 w0:=s.w0
 w1:=λr m=>(wB.mp m).elim (s.w1 r) λm=>by rw [wx.mp m];exact e
 w2:=s.w2
theorem Stk.push2{q:Addr}{b c:List (Addr×List Int)}(s:Stk H H' rp r0 r1 r2 a b c hl)(hq:H' q=some (.lst (x.map V.int)))(d:q≠r0/\q≠r1/\q≠r2)(e:x.length=1):
  Stk H (upd H' r2 (.lst (refs c ++ [V.ref q]))) rp r0 r1 r2 a b (c ++ [(q,x)]) hl where
 same:=s.same.put s.f2
 top:=by rw [zl s.np2];exact s.top
 h0:=s.h0.kp z2n s.n02 λr m=>(s.a0 r m).2.2
 h1:=s.h1.kp z2n s.n12 λr m=>(s.a1 r m).2.2
 h2:=s.h2.push d.2.2 hq
 f0:=s.f0
 f1:=s.f1
 f2:=s.f2
 n01:=s.n01
 n02:=s.n02
 n12:=s.n12
 np0:=s.np0
 np1:=s.np1
 np2:=s.np2
 a0:=s.a0
 a1:=s.a1
 a2:=λr m=>(wB.mp m).elim (s.a2 r) λm=>by rw [wx.mp m];exact d
 w0:=s.w0
 w1:=s.w1
 w2:=λr m=>(wB.mp m).elim (s.w2 r) λm=>by rw [wx.mp m];exact e
theorem zI:FnScope ["_law_cells","_law_more","_law_rows","_law_heads","_law_k","_law_cell","_law_one","_law_other","_law_rest","_law_first","_law_made"] ["_law_cells","_law_more"] (zi jN):=by walk_at "s"
set_option maxHeartbeats 1600000 in
theorem z3O(F:Fun K "_law_stocked" "_law_stocked" jN f fd)(T:Txt K mg):FnOk P w K mg base CX0 1 f fd ["_law_cells","_law_more"] (spStocked K):=by
 refine F.okB zI (λvs H Q E h=> ?_) (λvs H Q E h=> ?_)
 ·obtain⟨cp,ns,more,rfl,_⟩:=h
  rfl
 obtain⟨cp,ns,more,rfl,X,hn,pJ,E9,fin⟩:=h;have fc:(ns.map V.int).length=ns.length:=w9 _;have z0:0<=sizeLine:=by decide
 intro ac A outer sh hr;refine⟨_,(zc (seT 2 zI (zF (jI (zF ze) (jI (zF ze) (jI (zF ze) ze)))))
  (zc (yI (i:=3) zI.nd rfl (QI rfl) (zF (zt zo (zt zo (zt zo (zt zo (zt zo (zt zo (zt zo (zt zo (zt zo (zt zo (zt zo (zt zo ze))))))))))))))
  (zc (yI (i:=3) zI.nd rfl (QI rfl) (jr yF v3 jX (jH (ixL (zF (yo (zp yy za (zp zU (zP (z1P rfl) rfl T.sum w0t (zm (jr yF v0 jX (jH za)) ze)) za)) (zt za ze))) (jk z5j rfl T.int PyProof.Rows.boot_int (z8P (cmE zM (zp zU (zP (z1P rfl) rfl T.sum w0t (zm (jr yF v0 jX (jH za)) ze)) za) za) ze))))))
  (zc (foR (yj rfl T.range (zO (zP (z9R rfl) rfl T.max PyProof.Rows.boot_max (zt za (zO (leN T.len (zb v0 ze)) ze))) ze)) (z0s (i:=4) zI.nd rfl (QI rfl))
   (zc (yI (i:=5) zI.nd rfl (QI rfl) (zp yy (zp z4q za v4) za))
   (zc (kH (cmT z5L v4 (leN T.len (zb v0 ze)))
    (zf (yI (i:=5) zI.nd rfl (QI rfl) (ixL v0 v4)))
    zv)
   (zc (seT 6 zI (zp z3b (zp zU v5 za) za))
   (zc (seT 7 zI (zp z3b (zp zU (zp yy (zp yc v5 za) v4) za) za))
   (zc (kH (cmT zM (zp zU v5 za) za)
    (zf (seT 7 zI (zp yy (pv 7) (z40 ⟨by decide,by decide,by decide⟩))))
    zv)
   (zc (jY (j:=8) rfl zI.nd rfl (w02 rfl) (CompSc.of (sx:=zi jN) (NX:= ["_law_cells","_law_more","_law_rows","_law_heads","_law_k","_law_cell","_law_one","_law_other","_law_rest","_law_first","_law_made"]) (fr:= ["_law_cell","_law_k"]) (ix:= [5,4]) rfl rfl (by decide +kernel)) (z9J rfl T.range (zt za (zO (leN T.len (zb v3 ze)) ze))) (λ_ _ _ _ _ _=>jg) (λ_ _ _ _ _ _=>(zp zU (zp yy (zp yy (zp yc v1 za) v2) v0) za)))
   (zc (seT 9 zI (zp kC (zF (zb (pv 6) (zb (pv 7) ze))) (pv 8)))
   (zf (jd (apP (ixL v2 (zp zU v4 za)) (zm (ixL (zF (zb (pv 9) (jI (zF (zb (pv 7) (zb (pv 6) ze))) (jI (zF (zb (pv 6) ze)) ze)))) (zp zU v4 za)) ze))))))))))))
  (zc (kH (cmT zM (zp zU (zP (z1P rfl) rfl T.sum w0t (zm (jr yF v0 (jH (z5M z38 za)) jX) ze)) za) za)
   (zf (foR (yj rfl T.range (zb v1 ze)) (z0s (i:=4) zI.nd rfl (QI rfl))
    (zf (jd (apP (ixL v2 za) (z0r (jC rfl (CompSc.of (sx:=zi jN) (NX:= ["_law_cells","_law_more","_law_rows","_law_heads","_law_k","_law_cell","_law_one","_law_other","_law_rest","_law_first","_law_made"]) (fr:= ["_law_k"]) (ix:= [4]) rfl rfl (by decide +kernel)) (yj rfl T.range (zO (leN T.len (zb v3 ze)) ze)) (λ_ _ _ _ _ _=>jg) (λ_ _ _ _ _ _=>(zp z3b (zp zU (zp yy v1 v0) za) za))) ze))))))
   zv)
  (zc (kH (PW.pt (z1K (cmT z7D (leN T.len (zb v0 ze)) za) (z26 (cmT zM (zp zU (ixL v0 za) za) za))))
   (zf (z88 (zF ze) (z8e v2 (zp zU (ixL v0 (z5M z38 za)) za) set_list)))
   zv)
  (zc (seT 10 zI (zF (zZ (zG (zt zo (zb v3 (zm (ixL v2 za) ze)))) (zZ (zG (zt zo (jI (zF (zt zo (zt zo ze))) (zm (ixL v2 za) ze)))) ze))))
  (zc (jY (j:=7) rfl zI.nd rfl (w02 rfl) (CompSc.of (sx:=zi jN) (NX:= ["_law_cells","_law_more","_law_rows","_law_heads","_law_k","_law_cell","_law_one","_law_other","_law_rest","_law_first","_law_made"]) (fr:= ["_law_heads"]) (ix:= [3]) rfl rfl (by decide +kernel)) (yj rfl T.range (zt za ze)) (λ_ _ _ _ _ _=>jg) (λ_ _ _ _ _ _=>(jC rfl (CompSc.of2 (sx:=zi jN) (NX:= ["_law_m","_law_heads"]) (fr:= ["_law_m"]) (ix:= [0]) rfl rfl (by decide +kernel)) (yj rfl T.range (zO (zP (z4X (K:=K) rfl) rfl T.len PySem.boot_len (zb v1 ze)) ze)) (λ_ _ _ _ _ _=>jg) (λ_ _ _ _ _ _=>(zp z3b (zp zU (zp yy (zp z4q za v1) v0) za) za)))))
  (zf (zr (zp kC (pv 10) (zF (zZ (zG (zt zo (jI (zF (zt zo ze)) (zm (ixL v2 za) ze)))) (zZ (zG (zt zo (zO (jk yE rfl T.list qJ (zb v3 ze)) (zb (pv 7) ze)))) ze)))))))))))))),?_⟩
 generalize hK0:K=K1
 revert K1
 refine jj (by walk_at "cl") ?_;refine⟨z0,λr0 am=> ?_⟩;refine zg (upd _ r0 _) rfl am λH1 n1 x1=> ?_
 refine⟨z0,λr1 dP=> ?_⟩;refine zg (upd _ r1 _) rfl dP λH2 n2 x2=> ?_
 refine⟨z0,λr2 cj=> ?_⟩;refine zg (upd _ r2 _) rfl cj λH3 n3 x3=> ?_
 refine⟨(zA rfl),λrp eK=> ?_⟩;refine zg (upd _ rp _) rfl eK λH4 n4 x4=> ?_
 refine⟨(zA rfl),λfE fg=> ?_⟩;refine zg (upd _ fE _) rfl fg λH5 n5 x5=> ?_
 replace x5:H5 fE=some (.lst (jc.map V.str)):=x5;have s3:=n1.trans (n2.trans n3);have s5:=s3.trans (n4.trans n5);have dX:∀hl,Stk H H5 rp r0 r1 r2 [] [] [] hl:=λhl=>⟨s5,n5 _ _ x4,yB (n5 _ _ (n4 _ _ (n3 _ _ (n2 _ _ x1)))),yB (n5 _ _ (n4 _ _ (n3 _ _ x2))),yB (n5 _ _ (n4 _ _ x3)),am,n1.free dP,(n1.trans n2).free cj,zq x1 dP,zq (n2 _ _ x1) cj,zq x2 cj,(zq (n3 _ _ (n2 _ _ x1)) eK).symm,(zq (n3 _ _ x2) eK).symm,(zq x3 eK).symm,λ_ z=>(by cases z),λ_ z=>(by cases z),λ_ z=>(by cases z),λ_ z=>(by cases z),λ_ z=>(by cases z),λ_ z=>(by cases z)⟩
 refine !(!(!⟨cp,!⟨s5.seq X,λl1 hU=> ?_⟩⟩));rw [z22];refine zg (upd _ l1 _) rfl hU λH6 n6 x6=> ?_
 refine⟨l1,!⟨SqL.of x6,_,!⟨rfl,(by show(0:Int) < 5;decide),_,!⟨rfl,(zA rfl),λl2 bD=> ?_⟩⟩⟩⟩;generalize ((ns.drop (HT.sIx ns.length 0 none)).take (HT.sIx ns.length ns.length (some 1) - HT.sIx ns.length 0 none)).sum=sm;refine zg (upd _ l2 _) rfl bD λH7 n7 x7=> ?_
 refine !(!⟨cp,!⟨(s5.trans (n6.trans n7)).seq X,λl3 av=> ?_⟩⟩);rw [z22];refine zg (upd _ l3 _) rfl av λH8 n8 x8=> ?_
 refine⟨l3,!⟨SqL.of x8,_,!⟨rfl,(by show(0:Int) < 11;decide),rfl,.inr (!?_)⟩⟩⟩;have bH:=n6.trans (n7.trans n8);obtain⟨m,m1,m2,em⟩:∃m:Int,2<=m/\m<=12/\atI [V.int (2 + sm % 5),V.int 12] (if decide (V.int (((ns.drop (HT.sIx ns.length 0 none)).take (HT.sIx ns.length ns.length (some 1) - HT.sIx ns.length 0 none)).sum % 11)=V.int 4)=true then 1 else 0)=some (.int m):=by
  cases decide (V.int (((ns.drop (HT.sIx ns.length 0 none)).take (HT.sIx ns.length ns.length (some 1) - HT.sIx ns.length 0 none)).sum % 11)=V.int 4)with
  | true=>exact⟨12,by decide,by decide,j8⟩
  | false=>exact⟨2 + sm % 5,by lia,by lia,zH⟩
 refine zu (n8 _ _ x7) em (!⟨fE,!⟨SqL.of (bH _ _ x5),λhp ck=> ?_⟩⟩);rw [z18 (by lia),<-QJ];refine zg (upd _ hp _) rfl ck λH9 n9 x9=> ?_
 have gq:(jc.take m.toNat).length=m.toNat:=by
  rw [wK];have:jc.length=12:=rfl
  lia
 have lh:=(dX m.toNat).new (bH.trans n9);have gi:((jc.take m.toNat).map V.str).length=m.toNat:=by rw [w9,gq]
 have tU:hp≠r0:=(zq ((bH _ _ ((dX 0).h0.1))) ck).symm;have xQ:hp≠r1:=(zq ((bH _ _ ((dX 0).h1.1))) ck).symm;have xR:hp≠r2:=(zq ((bH _ _ ((dX 0).h2.1))) ck).symm;have pK:hp≠rp:=(zq ((bH _ _ ((dX 0).top))) ck).symm;have Ea:∀{H':Hp},zw H9 H'->H' hp=some (.lst ((jc.take m.toNat).map V.str)):=λe=>e _ _ x9
 have emax:(if(((ns.map V.int).length:Nat):Int) > 12 then(((ns.map V.int).length:Nat):Int)else 12)=((max 12 ns.length:Nat):Int):=by
  rw [fc];split <;> lia
 refine !⟨cp,!⟨.inl (lh.same.seq X),_,!⟨((max 12 ns.length:Nat):Int),Q6 (λz=> [V.int z]) emax,by lia,by lia,kR (lo:=0) (n:=max 12 ns.length) (λi σ H'=>∃(a b c:List (Addr×List Int)) (y o5 Z S O N:Option V),σ= [some (.ref cp),some (.int more),some (.ref rp),some (.ref hp),y,o5,Z,S,O,N,none]/\Stk H H' rp r0 r1 r2 a b c m.toNat/\H' hp=some (.lst ((jc.take m.toNat).map V.str))/\
  a.length=(i + 2) / 3/\b.length=(i + 1) / 3/\c.length=i / 3) ⟨[],[],[],none,none,none,none,none,none,rfl,lh,x9,rfl,rfl,rfl⟩ ?_ ?_⟩⟩⟩
 ·rintro i σ G hi ⟨a,b,c,y,o5,Z,S,O,N,rfl,k0,fg,la,lb,lc⟩;have xS:i < 18:=by lia
  refine !⟨_,!⟨rfl,.inl ⟨by decide,by decide⟩,_,!⟨rfl,?_⟩⟩⟩;refine⟨λσ l=>∃cell:Int,σ= [some (.ref cp),some (.int more),some (.ref rp),some (.ref hp),some (.int (0 + (i:Int))),some (.int cell),Z,S,O,N,none]/\l=G,?_,?_⟩
  ·refine !(!⟨cp,!⟨.inl (k0.same.seq X),_,!⟨rfl,!?_⟩⟩⟩);refine yT (λR=> ?_) (λR=> ?_)
   ·have eE:=qA R;rw [fc]at eE;have aP:atI (ns.map V.int) (0 + (i:Int))=some (.int (ns.getD i 0)):=by rw [w0N];exact zW (int_at (by lia))
    refine !(!⟨cp,_,_,!⟨rfl,k0.same.seq X,aP,?_⟩⟩);exact !rfl
   ·exact !rfl
  rintro σ G ⟨cell,rfl,rfl⟩;refine !⟨_,!⟨rfl,(by show(0:Int) < 4;decide),_,!⟨rfl,?_⟩⟩⟩;refine !⟨_,!⟨rfl,⟨by decide,by decide⟩,!⟨_,!⟨rfl,_,!⟨rfl,(by show(0:Int) < 5;decide),_,!⟨rfl,?_⟩⟩⟩⟩⟩⟩;refine⟨λσ l=>∃one other:Int,σ= [some (.ref cp),some (.int more),some (.ref rp),some (.ref hp),some (.int (0 + (i:Int))),some (.int cell),some (.int one),some (.int other),O,N,none]/\l=G,?_,?_⟩
  ·refine !⟨_,!⟨rfl,(by show(0:Int) < 23;decide),rfl,!?_⟩⟩;refine yT (λR=> ?_) (λR=> ?_)
   ·refine !⟨_,!⟨rfl,?_⟩⟩;exact⟨_,!rfl⟩
   ·exact⟨_,!rfl⟩
  rintro σ G ⟨one,other,rfl,rfl⟩;refine !⟨hp,!⟨.inl (SqL.of fg),2,(m.toNat:Int),Q6 (λz:Nat=> [V.int 2,V.int ((z:Nat):Int)]) gi,⟨by lia,by lia,by lia,by lia⟩,?_⟩⟩;refine z05 (lo:=2) (n:=((m.toNat:Int) - 2).toNat) (λj ys H'=>H'=G/\∃zs:List Int,ys=zs.map V.int/\zs.length=j) ⟨rfl,[],rfl,rfl⟩ ?_ ?_ ?_
  ·rintro j ys l hj ⟨rfl,zs,rfl,I⟩;exact zE (by rw [w9];lia)
  ·rintro j ys l hj ⟨rfl,zs,rfl,I⟩;refine !⟨_,!⟨rfl,⟨by decide,by decide⟩,!⟨_,!⟨rfl,!⟨_,!⟨rfl,_,!⟨rfl,(by show(0:Int) < 3;decide),rfl,ints_snoc I⟩⟩⟩⟩⟩⟩⟩
  rintro ys G ⟨rfl,rest,rfl,tV⟩ tp aD;refine zg (upd _ tp _) rfl aD λG1 e1 y1=> ?_
  have bF:2 + rest.length=m.toNat:=by lia
  refine !(!⟨(zA rfl),λl4 as=> ?_⟩);refine zg (upd _ l4 _) rfl as λG2 Y y2=> ?_
  refine !⟨l4,tp,_,!⟨rfl,y2,Y _ _ y1,jb (by rw [w9];simp only [wN,Qo];lia),λfp bv=> ?_⟩⟩;have d:=k0.new (e1.trans Y);have nf:=d.fresh bv;refine zg (upd _ fp _) rfl bv λG3 e3 x9=> ?_
  replace x9:G3 fp=some (.lst (([one,other] ++ rest).map V.int)):=by rw [x9,wD];rfl
  have B:=d.new e3;have dA:=(e1.trans (Y.trans e3)) _ _ fg;have fh:i % 3=0\/i % 3=1\/i % 3=2:=by lia
  rcases fh with tW | tW | tW
  ·have C:(0 + (i:Int)) % 3=0:=by lia
   have lj:atI [V.ref r0,V.ref r1,V.ref r2] ((0 + (i:Int)) % 3)=some (V.ref r0):=by rw [C];exact zH
   refine !(!⟨_,!⟨rfl,(by show(0:Int) < 3;decide),zu B.top lj ⟨.inl ⟨rfl,_,SqL.of B.h0.1⟩,!(!(!⟨(zA rfl),λu1 dH=> ?_⟩))⟩⟩⟩);refine zg (upd _ u1 _) rfl dH λG4 t y4=> ?_
   refine !⟨(zA rfl),λu2 D=> ?_⟩;refine zg (upd _ u2 _) rfl D λG5 s y5=> ?_
   refine⟨(zA rfl),λu3 L=> ?_⟩;refine zg (upd _ u3 _) rfl L λG6 p y6=> ?_
   have k6:=B.new (t.trans (s.trans p));have fJ:=(t.trans (s.trans p)) _ _ dA;refine !⟨_,!⟨rfl,(by show(0:Int) < 3;decide),zu y6 (by rw [C];exact zH) ⟨r0,_,!⟨rfl,k6.h0.1,zE (by rw [w9];lia),?_⟩⟩⟩⟩;refine⟨_,_,_,_,_,_,_,_,!⟨k6.push0 (x:= [one,other] ++ rest) ((t.trans (s.trans p)) _ _ x9) nf (by simp;lia),by rw [zl tU];exact fJ,by rw [wg,wS];lia,by lia,by lia⟩⟩
  ·have C:(0 + (i:Int)) % 3=1:=by lia
   have lj:atI [V.ref r0,V.ref r1,V.ref r2] ((0 + (i:Int)) % 3)=some (V.ref r1):=by rw [C];exact j8
   refine !(!⟨_,!⟨rfl,(by show(0:Int) < 3;decide),zu B.top lj ⟨.inl ⟨rfl,_,SqL.of B.h1.1⟩,!(!(!⟨(zA rfl),λu1 dH=> ?_⟩))⟩⟩⟩);refine zg (upd _ u1 _) rfl dH λG4 t y4=> ?_
   refine !⟨(zA rfl),λu2 D=> ?_⟩;refine zg (upd _ u2 _) rfl D λG5 s y5=> ?_
   refine⟨(zA rfl),λu3 L=> ?_⟩;refine zg (upd _ u3 _) rfl L λG6 p y6=> ?_
   have k6:=B.new (t.trans (s.trans p));have fJ:=(t.trans (s.trans p)) _ _ dA;refine !⟨_,!⟨rfl,(by show(0:Int) < 3;decide),zu y6 (by rw [C];exact j8) ⟨r1,_,!⟨rfl,k6.h1.1,zE (by rw [w9];lia),?_⟩⟩⟩⟩;refine⟨_,_,_,_,_,_,_,_,!⟨k6.push1 (x:= [other,one]) (p _ _ (s _ _ y4)) (B.fresh dH) rfl,by rw [zl xQ];exact fJ,by lia,by rw [wg,wS];lia,by lia⟩⟩
  ·have C:(0 + (i:Int)) % 3=2:=by lia
   have lj:atI [V.ref r0,V.ref r1,V.ref r2] ((0 + (i:Int)) % 3)=some (V.ref r2):=by rw [C];exact jz
   refine !(!⟨_,!⟨rfl,(by show(0:Int) < 3;decide),zu B.top lj ⟨.inl ⟨rfl,_,SqL.of B.h2.1⟩,!(!(!⟨(zA rfl),λu1 dH=> ?_⟩))⟩⟩⟩);refine zg (upd _ u1 _) rfl dH λG4 t y4=> ?_
   refine !⟨(zA rfl),λu2 D=> ?_⟩;refine zg (upd _ u2 _) rfl D λG5 s y5=> ?_
   refine⟨(zA rfl),λu3 L=> ?_⟩;refine zg (upd _ u3 _) rfl L λG6 p y6=> ?_
   have k6:=B.new (t.trans (s.trans p));have fJ:=(t.trans (s.trans p)) _ _ dA;refine !⟨_,!⟨rfl,(by show(0:Int) < 3;decide),zu y6 (by rw [C];exact jz) ⟨r2,_,!⟨rfl,k6.h2.1,zE (by rw [w9];lia),?_⟩⟩⟩⟩;refine⟨_,_,_,_,_,_,_,_,!⟨k6.push2 (x:= [one]) (p _ _ y5) ((B.new t).fresh D) rfl,by rw [zl xR];exact fJ,by lia,by lia,by rw [wg,wS];lia⟩⟩
 rintro σ G ⟨a,b,c,y,o5,Z,S,O,N,rfl,k0,tX,la,lb,lc⟩;have xT:a.length<=7:=by lia
 have Eb:b.length<=7:=by lia
 have Ec:c.length<=7:=by lia
 refine⟨λσ l=>∃(a:List (Addr×List Int)) (y:Option V),σ= [some (.ref cp),some (.int more),some (.ref rp),some (.ref hp),y,o5,Z,S,O,N,none]/\Stk H l rp r0 r1 r2 a b c m.toNat/\l hp=some (.lst ((jc.take m.toNat).map V.str))/\a.length<=60,?_,?_⟩
 ·refine !(!(!⟨cp,!⟨k0.same.seq X,λl5 aq=> ?_⟩⟩));rw [z22];refine zg (upd _ l5 _) rfl aq λG1 e1 y1=> ?_
  refine⟨l5,!⟨SqL.of y1,_,!⟨rfl,(by show(0:Int) < 8;decide),rfl,!?_⟩⟩⟩;have u:=k0.new e1;refine yT (λR=> ?_) (λR=> ?_)
  ·refine !⟨more,rfl,by lia,by lia,kR (lo:=0) (n:=more.toNat) (λi σ l=>∃(a:List (Addr×List Int)) (y:Option V),σ= [some (.ref cp),some (.int more),some (.ref rp),some (.ref hp),y,o5,Z,S,O,N,none]/\Stk H l rp r0 r1 r2 a b c m.toNat/\l hp=some (.lst ((jc.take m.toNat).map V.str))/\a.length<=7 + i) ⟨a,y,rfl,u,e1 _ _ tX,xT⟩ ?_ ?_⟩
   ·rintro i σ G2 hi ⟨a,y,rfl,d,eG,xU⟩;refine !(zu d.top zH ⟨.inl ⟨rfl,_,SqL.of d.h0.1⟩,!⟨hp,!⟨.inl (SqL.of eG),(m.toNat:Int),Q6 (λz:Nat=> [V.int ((z:Nat):Int)]) gi,by lia,by lia,?_⟩⟩⟩);refine z05 (lo:=0) (n:=(m.toNat:Int).toNat) (λj ys H'=>H'=G2/\∃zs:List Int,ys=zs.map V.int/\zs.length=j) ⟨rfl,[],rfl,rfl⟩ ?_ ?_ ?_
    ·rintro j ys l hj ⟨rfl,zs,rfl,I⟩;exact zE (by rw [w9];lia)
    ·rintro j ys l hj ⟨rfl,zs,rfl,I⟩;refine !(!⟨_,!⟨rfl,_,!⟨rfl,(by show(0:Int) < 4;decide),_,!⟨rfl,rfl,ints_snoc I⟩⟩⟩⟩)
    rintro ys l ⟨rfl,zs,rfl,I⟩ tp aD;have nf:=d.fresh aD;refine zg (upd _ tp _) rfl aD λG3 e3 y3=> ?_
    have B:=d.new e3;refine⟨r0,_,!⟨rfl,B.h0.1,zE (by rw [w9];lia),?_⟩⟩;exact⟨_,!⟨B.push0 y3 nf (by rw [I];rfl),by rw [zl tU];exact e3 _ _ eG,by rw [wg,wS];lia⟩⟩
   ·rintro σ G2 ⟨a,y,rfl,d,eG,xU⟩;exact⟨a,y,rfl,d,eG,by lia⟩
  ·exact⟨a,y,rfl,u,e1 _ _ tX,by lia⟩
 rintro σ G1 ⟨a,y,rfl,u,fB,pL⟩;refine⟨λσ l=>∃(s0 s1 s2:Addr) (a b c:List (Addr×List Int)),σ= [some (.ref cp),some (.int more),some (.ref rp),some (.ref hp),y,o5,Z,S,O,N,none]/\zw H l/\l rp=some (.lst [.ref s0,.ref s1,.ref s2])/\l hp=some (.lst ((jc.take m.toNat).map V.str))/\RowsAt l s0 a/\RowsAt l s1 b/\RowsAt l s2 c/\
  (∀r∈a,r.2.length=m.toNat)/\(∀r∈b,r.2.length=2)/\(∀r∈c,r.2.length=1)/\a.length<=60/\b.length<=10/\c.length<=10,?_,?_⟩
 ·have pM:∃(s0 s1 s2:Addr) (a b c:List (Addr×List Int)),([some (.ref cp),some (.int more),some (.ref rp),some (.ref hp),y,o5,Z,S,O,N,none]:List (Option V))= [some (.ref cp),some (.int more),some (.ref rp),some (.ref hp),y,o5,Z,S,O,N,none]/\zw H G1/\G1 rp=some (.lst [.ref s0,.ref s1,.ref s2])/\G1 hp=some (.lst ((jc.take m.toNat).map V.str))/\RowsAt G1 s0 a/\RowsAt G1 s1 b/\RowsAt G1 s2 c/\
   (∀r∈a,r.2.length=m.toNat)/\(∀r∈b,r.2.length=2)/\(∀r∈c,r.2.length=1)/\a.length<=60/\b.length<=10/\c.length<=10:=
   ⟨r0,r1,r2,a,b,c,rfl,u.same,u.top,fB,u.h0,u.h1,u.h2,u.w0,u.w1,u.w2,pL,by lia,by lia⟩
  refine z87 (z83 pM) (λels=> ?_);refine !⟨cp,!⟨.inl (u.same.seq X),_,!⟨rfl,!?_⟩⟩⟩;refine yT (λR=> ?_) (λR=>els);have eE:=qA R;rw [fc]at eE;have lA:0 < ns.length:=by lia
  have xV:atI (ns.map V.int) 0=some (.int (ns.getD 0 0)):=zW (j:=0) (int_at lA);have tY:atI (ns.map V.int) (-1)=some (.int (ns.getD (ns.length - 1) 0)):=zds lA;refine !⟨cp,_,_,!⟨rfl,u.same.seq X,xV,_,!⟨rfl,(by show(0:Int) < 9;decide),rfl,!?_⟩⟩⟩;refine yT (λhc=> ?_) (λhc=>els);refine⟨z0,λep ai=> ?_⟩;refine zg (upd _ ep _) rfl ai λG2 Y y2=> ?_
  generalize ns.getD (ns.length - 1) 0=lst at tY;refine !(!(!⟨cp,_,_,!⟨rfl,(u.same.trans Y).seq X,tY,_,!⟨rfl,(by show(0:Int) < 3;decide),?_⟩⟩⟩));have d:=u.new Y;have pN:ep≠rp:=(zq u.top ai).symm;have pO:H rp=none:=s3.free eK;have fh:lst % 3=0\/lst % 3=1\/lst % 3=2:=by lia
  have kp:∀{q:Addr} {rs:List (Addr×List Int)} {o:HO},RowsAt G2 q rs->q≠rp->RowsAt (upd G2 rp o) q rs:=λ{q rs o} h n=>h.kp z2n n λr m z=>by
   have h1:=(h.2 r m).2;rw [z,d.top]at h1;have h2:=Q6 (λx=>match x with | some (HO.lst xs)=>xs | _=> []) h1;have C: [V.ref r0,V.ref r1,V.ref r2]=r.2.map V.int:=h2;cases cj:r.2 with
   | nil=>rw [cj]at C;cases C
   | cons x xs=>rw [cj]at C;cases C
  rcases fh with fh | fh | fh
  ·refine⟨rp,_,_,0,rfl,rfl,d.top,by rw [fh];rfl,?_⟩;exact⟨ep,r1,r2,[],b,c,rfl,(d.same).put pO,zj,by rw [zl pK];exact Y _ _ fB,kp (yB y2) pN,kp d.h1 d.np1.symm,kp d.h2 d.np2.symm,λ_ z=>(by cases z),d.w1,d.w2,qQ _,by lia,by lia⟩
  ·refine⟨rp,_,_,1,rfl,rfl,d.top,by rw [fh];rfl,?_⟩;exact⟨r0,ep,r2,a,[],c,rfl,(d.same).put pO,zj,by rw [zl pK];exact Y _ _ fB,kp d.h0 d.np0.symm,kp (yB y2) pN,kp d.h2 d.np2.symm,d.w0,λ_ z=>(by cases z),d.w2,pL,qQ _,by lia⟩
  ·refine⟨rp,_,_,2,rfl,rfl,d.top,by rw [fh];rfl,?_⟩;exact⟨r0,r1,ep,a,b,[],rfl,(d.same).put pO,zj,by rw [zl pK];exact Y _ _ fB,kp d.h0 d.np0.symm,kp d.h1 d.np1.symm,kp (yB y2) pN,d.w0,d.w1,λ_ z=>(by cases z),pL,by lia,qQ _⟩
 rintro σ G2 ⟨s0,s1,s2,a,b,c,rfl,xW,top2,eG,j0,j1,j2,w0,w1,w2,c0,c1,c2⟩;refine !(!(zu top2 zH ⟨(zA rfl),λt0 ap=> ?_⟩));refine zg (upd _ t0 _) rfl ap λG3 e3 y3=> ?_
 refine⟨(zA rfl),λwl ar=> ?_⟩;refine zg (upd _ wl _) rfl ar λG4 e4 y4=> ?_
 refine !(zu (e4 _ _ (e3 _ _ top2)) j8 ⟨(zA rfl),λt1 au=> ?_⟩);refine zg (upd _ t1 _) rfl au λG5 e5 y5=> ?_
 refine⟨(zA rfl),λmp gm=> ?_⟩;refine zg (upd _ mp _) rfl gm λG6 e6 y6=> ?_
 have tZ:=e3.trans (e4.trans (e5.trans e6));refine⟨3,rfl,by decide,by decide,?_⟩;refine z05 (lo:=0) (n:=(3:Int).toNat) (λi ys H'=>zw G6 H'/\∃qs:List (Addr×List Int),ys=refs qs/\qs.length=i/\(∀r∈qs,H' r.1=some (.lst (r.2.map V.int))/\r.2.length=m.toNat)) ⟨zw.refl _,[],rfl,rfl,λ_ z=>(by cases z)⟩ ?_ ?_ ?_
 ·rintro i ys l hi ⟨af,qs,rfl,lq,hq⟩;exact zE (by rw [w9,lq];exact wP hi (by decide))
 ·rintro i ys l hi ⟨af,qs,rfl,lq,hq⟩;have xX:=af _ _ (tZ _ _ eG);refine !⟨hp,!⟨.inl (SqL.of xX),(m.toNat:Int),Q6 (λz:Nat=> [V.int ((z:Nat):Int)]) gi,by lia,by lia,?_⟩⟩;refine z05 (lo:=0) (n:=(m.toNat:Int).toNat) (λj ys H'=>H'=l/\∃zs:List Int,ys=zs.map V.int/\zs.length=j) ⟨rfl,[],rfl,rfl⟩ ?_ ?_ ?_
  ·rintro j ys l hj ⟨rfl,zs,rfl,I⟩;exact zE (by rw [w9];lia)
  ·rintro j ys l hj ⟨rfl,zs,rfl,I⟩;refine !⟨_,!⟨rfl,.inl ⟨by decide,by decide⟩,!⟨_,!⟨rfl,_,!⟨rfl,(by show(0:Int) < 5;decide),_,!⟨rfl,rfl,ints_snoc I⟩⟩⟩⟩⟩⟩
  ·rintro ys G7 ⟨rfl,zs,rfl,I⟩ lp aX;have n8:=zB aX (.lst (zs.map V.int));refine⟨af.trans n8,qs ++ [(lp,zs)],by simp [refs],by rw [wg,lq];rfl,λr mm=> ?_⟩;rcases wB.mp mm with mm | mm
   ·exact⟨n8 _ _ (hq r mm).1,(hq r mm).2⟩
   ·rw [wx.mp mm];exact⟨zj,by rw [I];rfl⟩
 rintro ys G7 ⟨xY,qs,rfl,lq,hq⟩ op u4;refine zg (upd _ op _) rfl u4 λG8 e8 y8=> ?_
 have lB:=xY.trans e8;have pP:=tZ.trans lB;have ro:=yl u4 e8 y8 λr mm=>(hq r mm).1
 refine !⟨(zA rfl),λxl fC=> ?_⟩;refine zg (upd _ xl _) rfl fC λG9 e9 y9=> ?_
 refine !(zu (e9 _ _ (pP _ _ top2)) jz ⟨(zA rfl),λt2 mT=> ?_⟩);refine zg (upd _ t2 _) rfl mT λay aa sU=> ?_
 refine !⟨hp,!⟨.inl (SqL.of (aa _ _ (e9 _ _ (pP _ _ eG)))),λcl bw=> ?_⟩⟩;refine zg (upd _ cl _) rfl bw λaz ad sV=> ?_
 refine !⟨(zA rfl),λt3 mU=> ?_⟩;refine zg (upd _ t3 _) rfl mU λaA U oU=> ?_
 refine⟨(zA rfl),λbp ao=> ?_⟩;refine zg (upd _ bp _) rfl ao λax M oV=> ?_
 have lD:=e9.trans (aa.trans (ad.trans (U.trans M)));refine⟨mp,bp,_,!⟨rfl,lD _ _ (lB _ _ y6),oV,(zA rfl),λak ag=> ?_⟩⟩;refine zg (upd _ ak _) rfl ag λaw J oW=> ?_
 have dY:=lD.trans J;have dZ:=pP.trans dY;have tok:=tabs_ok (m:=m.toNat) (r0:=a.map (·.2)) (r1:=b.map (·.2)) (r2:=c.map (·.2)) (r3:=qs.map (·.2)) (by lia) (by lia) (λr mm=>by obtain⟨x,hx,rfl⟩:=qe.mp mm;rw [gq];exact w0 x hx) (λr mm=>by obtain⟨x,hx,rfl⟩:=qe.mp mm;exact w1 x hx)
  (λr mm=>by obtain⟨x,hx,rfl⟩:=qe.mp mm;exact w2 x hx) (λr mm=>by obtain⟨x,hx,rfl⟩:=qe.mp mm;rw [gq];exact(hq x hx).2) (by rw [w9];exact c0) (by rw [w9];exact c1) (by rw [w9];exact c2) (by rw [w9,lq];rfl)
 refine fin ak _ _ _ (xW.trans dZ) tok ⟨.ref t0,.ref t1,.ref t2,.ref t3,oW,⟨t0,hp,s0,a,rfl,?_,?_,j0.same dZ,?_⟩,⟨t1,wl,s1,b,rfl,?_,?_,j1.same dZ,?_⟩,⟨t2,xl,s2,c,rfl,?_,?_,j2.same dZ,?_⟩,⟨t3,cl,op,qs,rfl,?_,?_,ro.same dY,?_⟩⟩
 ·exact(e4.trans (e5.trans (e6.trans (lB.trans dY)))) _ _ y3
 ·rw [show z1G (jc.take m.toNat) "t"=jc.take m.toNat by unfold z1G;rw [wM (by decide +kernel),wM (by decide +kernel)]];exact dZ _ _ eG
 ·unfold z39;rw [wY rfl]
 ·exact(e6.trans (lB.trans dY)) _ _ y5
 ·rw [show z1G (jc.take m.toNat) "tuvtuvtuvw"=z2l by unfold z1G;rw [wY rfl]];exact(e5.trans (e6.trans (lB.trans dY))) _ _ y4
 ·unfold z39;rw [wM (by decide +kernel),wY rfl]
 ·exact(ad.trans (U.trans (M.trans J))) _ _ sU
 ·rw [show z1G (jc.take m.toNat) "tuvtuvtuvx"=(["e"]:List Str) by unfold z1G;rw [wM (by decide +kernel),wY rfl]];exact(aa.trans (ad.trans (U.trans (M.trans J)))) _ _ y9
 ·unfold z39;rw [wM (by decide +kernel),wM (by decide +kernel),wY rfl]
 ·exact(M.trans J) _ _ oU
 ·rw [show z1G (jc.take m.toNat) "tuvz"=jc.take m.toNat by unfold z1G;rw [wM (by decide +kernel),wM (by decide +kernel)]];exact(U.trans (M.trans J)) _ _ sV
 ·unfold z39;rw [wM (by decide +kernel),wM (by decide +kernel),wM (by decide +kernel)]
inductive spTexts (K:W.Frag) (vs:List V) (H:Hp) (Q:VK) (E:XK):Prop
 | mk:∀a b (ss:List Str),vs= [.ref a,.ref b]->H a=some (.lst (ss.map V.str))->SqL K H b (ss.map V.str)->ss.length<=100000->Q (.bl true) H->spTexts K vs H Q E
theorem z2g:FnScope ["_law_found","_law_due","_law_k"] ["_law_found","_law_due"] (zi z1r):=by walk_at "s"
theorem z4V(F:Fun K "_law_texts" "_law_texts" z1r f fd)(T:Txt K mg):FnOk P w K mg base CX0 1 f fd ["_law_found","_law_due"] (spTexts K):=by
 refine F.okB z2g (λvs H Q E h=> ?_) (λvs H Q E h=> ?_)
 ·obtain⟨a,b,ss,rfl,_⟩:=h
  rfl
 obtain⟨a,b,ss,rfl,ha,d,hz,q⟩:=h;intro ac A outer p hr;refine⟨_,(zc (zD (z1k (ym (ji (zP zX rfl T.isinstance q9 (zb v0 (zb (yb (v:= .ty "list") rfl T.list qJ rfl) ze))))) (cmT z1I (leN T.len (zb v0 ze)) (leN T.len (zb v1 ze))))
   (zf (zr yd))
   zv)
  (zc (foR (yj rfl T.range (zO (leN T.len (zb v1 ze)) ze)) (gnM 2 z2g)
   (zf (zD (z1k (ym (ji (zP zX rfl T.isinstance q9 (zm (ixL v0 v2) (zb (yb (v:= .ty "str") rfl T.str Qd rfl) ze))))) (cmT z1I (ixL v0 v2) (ixL v1 v2)))
    (zf (zr yd))
    zv)))
  (zf (zr yd)))),?_⟩
 generalize hK0:K=K1
 revert K1
 refine jj (by walk_at "cl") ?_;have hl:(ss.map V.str).length=ss.length:=w9 _;have l: -(2 ^ 62)<=(((ss.map V.str).length:Nat):Int):=by lia
 have e:(((ss.map V.str).length:Nat):Int) < 2 ^ 62:=by rw [hl];lia
 refine !⟨_,_,_,!⟨TyOf.lst ha,jK,!⟨_,(!⟨a,!⟨.inl (SqL.of ha),!⟨b,!⟨.inl d,rfl,!⟨rfl,rfl⟩⟩⟩⟩⟩),?_⟩⟩⟩;refine ifF (by simp) ?_;refine !⟨b,!⟨.inl d,!⟨l,e,kR (lo:=0) (n:=(ss.map V.str).length) (λi σ H2=>∃v:Option V,σ= [some (.ref a),some (.ref b),v]/\H2=H) ⟨none,rfl,rfl⟩ ?_ ?_⟩⟩⟩
 ·rintro i σ H2 hi ⟨v,rfl,rfl⟩;have o:i < ss.length:=by rw [hl]at hi;exact hi
  have j:(ss.map V.str)[i]? =some (.str ss[i]):=by
   rw [wF,wa o]
   rfl
  have c:atI (ss.map V.str) (0 + (i:Int))=some (.str ss[i]):=by
   rw [w0N];exact zW j
  refine !(!(zu ha c ⟨_,_,_,!⟨TyOf.str _,jK,!⟨_,(!(!(zu ha c (!(!⟨b,_,_,!⟨rfl,d,c,rfl,!⟨rfl,rfl⟩⟩⟩))))),?_⟩⟩⟩));refine ifF (by simp) ?_;exact !rfl
 ·rintro σ H2 ⟨v,rfl,rfl⟩;exact q
inductive spWhole (vs:List V) (H:Hp) (Q:VK) (E:XK):Prop
 | mk:∀i,vs= [.int i]->Q (.bl true) H->spWhole vs H Q E
theorem z4Y:FnScope ["_law_found"] ["_law_found"] (zi z1s):=by walk_at "s"
theorem z4S(F:Fun K "_law_whole" "_law_whole" z1s f fd)(T:Txt K mg):FnOk P w K mg base CX0 1 f fd ["_law_found"] spWhole:=by
 refine F.okB z4Y (λvs H Q E h=> ?_) (λvs H Q E h=> ?_)
 ·obtain⟨i,rfl,_⟩:=h
  rfl
 obtain⟨i,rfl,q⟩:=h;intro ac A outer a hr;refine⟨_,(zf (zr (zdj (zP zX rfl T.isinstance q9 (zb v0 (zb (yb (v:= .ty "int") rfl T.int PyProof.Rows.boot_int rfl) ze))) (z7U (zP zX rfl T.isinstance q9 (zb v0 (zb (yb (v:= .ty "bool") rfl T.bool PyProof.Rows.boot_bool rfl) ze))))))),?_⟩;generalize hK0:K=K1
 revert K1
 refine jj (by walk_at "cl") ?_;exact !⟨_,_,_,!⟨TyOf.int i,jK,!⟨_,(!⟨_,_,_,!⟨TyOf.int i,z66,!⟨rfl,rfl⟩⟩⟩),q⟩⟩⟩
inductive spNumbers (K:W.Frag) (vs:List V) (H:Hp) (Q:VK) (E:XK):Prop
 | mk:∀a b (ns:List Int),vs= [.ref a,.ref b]->H a=some (.lst (ns.map V.int))->SqL K H b (ns.map V.int)->ns.length<=100000->Q (.bl true) H->spNumbers K vs H Q E
theorem z1w:FnScope ["_law_found","_law_due","_law_k"] ["_law_found","_law_due"] (zi z0E):=by walk_at "s"
theorem z3T(F:Fun K "_law_numbers" "_law_numbers" z0E f fd)(T:Txt K mg)(c:Kn P w K mg base 1 "_law_whole" ["_law_found"] spWhole):FnOk P w K mg base CX0 2 f fd ["_law_found","_law_due"] (spNumbers K):=by
 refine F.okB z1w (λvs H Q E h=> ?_) (λvs H Q E h=> ?_)
 ·obtain⟨a,b,ns,rfl,_⟩:=h
  rfl
 obtain⟨a,b,ns,rfl,ha,e,hz,q⟩:=h;intro ac A outer p hr;refine⟨_,(zc (zD (z1k (ym (ji (zP zX rfl T.isinstance q9 (zb v0 (zb (yb (v:= .ty "list") rfl T.list qJ rfl) ze))))) (cmT z1I (leN T.len (zb v0 ze)) (leN T.len (zb v1 ze))))
   (zf (zr yd))
   zv)
  (zc (foR (yj rfl T.range (zO (leN T.len (zb v1 ze)) ze)) (gnM 2 z1w)
   (zf (zD (z1k (ym (ji (zQ c hr.m (zm (ixL v0 v2) ze)))) (cmT z1I (ixL v0 v2) (ixL v1 v2)))
    (zf (zr yd))
    zv)))
  (zf (zr yd)))),?_⟩
 generalize hK0:K=K1
 revert K1
 refine jj (by walk_at "cl") ?_;have hl:(ns.map V.int).length=ns.length:=w9 _;have l: -(2 ^ 62)<=(((ns.map V.int).length:Nat):Int):=by lia
 have j:(((ns.map V.int).length:Nat):Int) < 2 ^ 62:=by rw [hl];lia
 refine !⟨_,_,_,!⟨TyOf.lst ha,jK,!⟨_,(!⟨a,!⟨.inl (SqL.of ha),!⟨b,!⟨.inl e,rfl,!⟨rfl,rfl⟩⟩⟩⟩⟩),?_⟩⟩⟩;refine ifF (by simp) ?_;refine !⟨b,!⟨.inl e,!⟨l,j,kR (lo:=0) (n:=(ns.map V.int).length) (λi σ H2=>∃v:Option V,σ= [some (.ref a),some (.ref b),v]/\H2=H) ⟨none,rfl,rfl⟩ ?_ ?_⟩⟩⟩
 ·rintro i σ H2 hi ⟨v,rfl,rfl⟩;have o:i < ns.length:=by rw [hl]at hi;exact hi
  have d:atI (ns.map V.int) (0 + (i:Int))=some (.int ns[i]):=by
   rw [w0N];exact zW (by rw [wF,wa o];rfl)
  refine !(!(zu ha d ⟨_,rfl,!⟨_,(!(!(zu ha d (!(!⟨b,_,_,!⟨rfl,e,d,rfl,!⟨rfl,rfl⟩⟩⟩))))),?_⟩⟩));refine ifF (by simp) ?_;exact !rfl
 ·rintro σ H2 ⟨v,rfl,rfl⟩;exact q
inductive spAlike (K:W.Frag) (vs:List V) (H:Hp) (Q:VK) (E:XK):Prop
 | mk:∀a b rs qs,vs= [.ref a,.ref b]->RowsAt H a rs->RowsAt H b qs->rs.map (·.2)=qs.map (·.2)->rs.length<=100000->(∀r∈rs,r.2.length<=100000)->Q (.bl true) H->spAlike K vs H Q E
theorem z2j:FnScope ["_law_found","_law_due","_law_k"] ["_law_found","_law_due"] (zi z1v):=by walk_at "s"
theorem z4T(F:Fun K "_law_alike" "_law_alike" z1v f fd)(T:Txt K mg)(c:Kn P w K mg base 2 "_law_numbers" ["_law_found","_law_due"] (spNumbers K)):FnOk P w K mg base CX0 3 f fd ["_law_found","_law_due"] (spAlike K):=by
 refine F.okB z2j (λvs H Q E h=> ?_) (λvs H Q E h=> ?_)
 ·obtain⟨a,b,rs,qs,rfl,_⟩:=h
  rfl
 obtain⟨a,b,rs,qs,rfl,ha,d,he,hz,l,q⟩:=h;intro ac A outer r hr;refine⟨_,(zc (zD (z1k (ym (ji (zP zX rfl T.isinstance q9 (zb v0 (zb (yb (v:= .ty "list") rfl T.list qJ rfl) ze))))) (cmT z1I (leN T.len (zb v0 ze)) (leN T.len (zb v1 ze))))
   (zf (zr yd))
   zv)
  (zc (foR (yj rfl T.range (zO (leN T.len (zb v1 ze)) ze)) (gnM 2 z2j)
   (zf (zD (ym (ji (zQ c hr.m (zm (ixL v0 v2) (zm (ixL v1 v2) ze)))))
    (zf (zr yd))
    zv)))
  (zf (zr yd)))),?_⟩
 generalize hK0:K=K1
 revert K1
 refine jj (by walk_at "cl") ?_;have o:(refs rs).length=rs.length:=w9 _;have j:(refs qs).length=qs.length:=w9 _;have hl:rs.length=qs.length:=by
  have:=Q6 List.length he
  rwa [w9,w9]at this
 refine !⟨_,_,_,!⟨TyOf.lst ha.1,jK,!⟨_,(!⟨a,!⟨.inl (SqL.of ha.1),!⟨b,!⟨.inl (SqL.of d.1),rfl,!⟨rfl,rfl⟩⟩⟩⟩⟩),?_⟩⟩⟩;refine ifF (by rw [o,j,hl];simp) ?_;refine !⟨b,!⟨.inl (SqL.of d.1),!⟨by lia,by rw [j];lia,kR (lo:=0) (n:=(refs qs).length) (λi σ H2=>∃v:Option V,σ= [some (.ref a),some (.ref b),v]/\H2=H) ⟨none,rfl,rfl⟩ ?_ ?_⟩⟩⟩
 ·rintro i σ H2 hi ⟨v,rfl,rfl⟩;rw [j]at hi;have e:i < rs.length:=by lia
  have p:rs[i].2=qs[i].2:=by
   have h1:(rs.map (·.2))[i]? =some rs[i].2:=by rw [wF,wa e];rfl
   rw [he,wF,wa hi]at h1;exact(Option.some.inj h1).symm
  refine !(!(zu ha.1 (z6v e) (!(!(zu d.1 (z6v hi) ⟨rs[i].1,qs[i].1,rs[i].2,rfl,(ha.2 _ (wu e)).2,SqL.of (by rw [p];exact(d.2 _ (wu hi)).2),l _ (wu e),!?_⟩)))));refine ifF (by rfl) ?_;exact !rfl
 ·rintro σ H2 ⟨v,rfl,rfl⟩;exact q
structure TxtP(K:W.Frag)(mg:Str->Option Value):Prop where
 cmp:∃a,mg "COMPARISONS"=some (.ref a)/\∀H,SqT K H a [.str "less",.str "same"]
 set:mg "set"=none
 two:∃a,mg "TWOFOLD"=some (.ref a)/\∀H,SqT K H a [.str "pair",.str "join",.str "both"]
inductive spNum (K:W.Frag) (vs:List V) (H:Hp) (Q:VK) (E:XK):Prop
 | mk:∀(sd:Side) hp rp (hs:List Str) (rs:List Int),vs= [sd.v,.ref hp,.ref rp]->SqL K H hp (hs.map V.str)->SqL K H rp (rs.map V.int)->hs.length=rs.length->sd.ok hs->Q (.int (num hs rs sd)) H->spNum K vs H Q E
theorem z6y:FnScope ["side","heads","row"] ["side","heads","row"] (zi z1Q):=by walk_at "s"
theorem z5Q(F:Fun K "number_of" "number_of" z1Q f fd)(T:Txt K mg):FnOk P w K mg base CX0 1 f fd ["side","heads","row"] (spNum K):=by
 refine F.okB z6y (λvs H Q E h=> ?_) (λvs H Q E h=> ?_)
 ·obtain⟨sd,hp,rp,hs,rs,rfl,_⟩:=h
  rfl
 obtain⟨sd,hp,rp,hs,rs,rfl,h1,h2,hl,ok,q⟩:=h;intro ac A outer d hr;refine⟨_,(zc (zD (ji (zP zX rfl T.isinstance q9 (zb v0 (zb (yb (v:= .ty "str") rfl T.str Qd rfl) ze))))
   (zf (zr (ixL v2 (ky wU qB qE yi v1 (zb v0 ze)))))
   zv)
  (zf (zr v0))),?_⟩
 generalize hK0:K=K1
 revert K1
 refine jj (by walk_at "cl") ?_;cases sd with
 | nm x=>
  refine !⟨_,_,_,!⟨TyOf.str x,jK,!?_⟩⟩;refine z8t ?_;have a:x∈hs:=ok;have b:hs.idxOf x < rs.length:=by
   rw [<-hl];exact qz.mpr a
  have c:(rs.map V.int)[hs.idxOf x]? =some (V.int (rs.getD (hs.idxOf x) 0)):=by
   rw [wF,wa b,wb,wa b]
   rfl
  exact !(!⟨.inl ⟨rfl,_,h1⟩,!⟨hp,_,_,hs.idxOf x,rfl,rfl,h1,rfl,zT hs,(jh a).1,(jh a).2,rp,_,_,!⟨rfl,h2,zW c,q⟩⟩⟩)
 | nu i=>
  refine !⟨_,_,_,!⟨TyOf.int i,z1W,!?_⟩⟩;refine z83 ?_;exact !q
inductive spCmp (K:W.Frag) (vs:List V) (H:Hp) (Q:VK) (E:XK):Prop
 | mk:∀c vc hp rp (hs:List Str) (rs:List Int),vs= [vc,.ref hp,.ref rp]->zC H c vc->c.leaf=true->c.ok hs->SqL K H hp (hs.map V.str)->SqL K H rp (rs.map V.int)->hs.length=rs.length->Q (.bl (ev hs rs c)) H->spCmp K vs H Q E
theorem z1N:FnScope ["comparison","heads","row","first","second"] ["comparison","heads","row"] (zi z2t):=by walk_at "s"
theorem z7o(F:Fun K "compared" "compared" z2t f fd)(T:Txt K mg)(e:Kn P w K mg base 1 "number_of" ["side","heads","row"] (spNum K)):FnOk P w K mg base CX0 2 f fd ["comparison","heads","row"] (spCmp K):=by
 refine F.okB z1N (λvs H Q E h=> ?_) (λvs H Q E h=> ?_)
 ·obtain⟨c,vc,hp,rp,hs,rs,rfl,_⟩:=h
  rfl
 obtain⟨c,vc,hp,rp,hs,rs,rfl,hc,lf,ok,h1,h2,hl,q⟩:=h;intro ac A outer j hr;refine⟨_,(zc (seT 3 z1N (zQ e hr.m (zm (ixT v0 za) (zb v1 (zb v2 ze)))))
  (zc (seT 4 z1N (zQ e hr.m (zm (ixT v0 za) (zb v1 (zb v2 ze)))))
  (zc (zD (cmT zM (ixT v0 za) zo)
   (zf (zr (cmE z5L v3 v4)))
   zv)
  (zf (zr (cmE zM v3 v4)))))),?_⟩
 generalize hK0:K=K1
 revert K1
 refine jj (by walk_at "cl") ?_;cases c with
 | less a b=>
  obtain⟨p,rfl,h⟩:=hc;obtain⟨i,kb⟩:=ok;refine !(zh h j8 (!(!⟨a,hp,rp,hs,rs,rfl,h1,h2,hl,i,?_⟩)));refine !(zh h jz (!(!⟨b,hp,rp,hs,rs,rfl,h1,h2,hl,kb,?_⟩)));refine !(zh h zH ⟨rfl,!?_⟩);refine ifT (by decide +kernel) ?_;exact !(!⟨_,!⟨rfl,q⟩⟩)
 | same a b=>
  obtain⟨p,rfl,h⟩:=hc;obtain⟨i,kb⟩:=ok;refine !(zh h j8 (!(!⟨a,hp,rp,hs,rs,rfl,h1,h2,hl,i,?_⟩)));refine !(zh h jz (!(!⟨b,hp,rp,hs,rs,rfl,h1,h2,hl,kb,?_⟩)));refine !(zh h zH ⟨rfl,!?_⟩);refine ifF (by decide +kernel) ?_;refine !(!⟨rfl,?_⟩);exact qbl z2Q q
 | no c=>cases lf
 | an c d=>cases lf
 | or c d=>cases lf
inductive spHolds (K:W.Frag) (vs:List V) (H:Hp) (Q:VK) (E:XK):Prop
 | mk:∀c vc hp rp (hs:List Str) (rs:List Int),vs= [vc,.ref hp,.ref rp]->zC H c vc->c.ok hs->c.size<=100000->SqL K H hp (hs.map V.str)->SqL K H rp (rs.map V.int)->hs.length=rs.length->(∀H',zw H H'->Q (.bl (ev hs rs c)) H')->spHolds K vs H Q E
theorem yQ:FnScope ["condition","heads","row","above","part","answer","over"] ["condition","heads","row"] (zi z6h):=by walk_at "s"
theorem zbi(F:Fun K "holds" "holds" z6h f fd)(T:Txt K mg)(R:TxtP K mg)(e:Kn P w K mg base 2 "compared" ["comparison","heads","row"] (spCmp K)):FnOk P w K mg base CX0 3 f fd ["condition","heads","row"] (spHolds K):=by
 refine F.okB yQ (λvs H Q E h=> ?_) (λvs H Q E h=> ?_)
 ·obtain⟨c,vc,hp,rp,hs,rs,rfl,_⟩:=h
  rfl
 obtain⟨c,vc,hp,rp,hs,rs,rfl,hc,ok,hz,h1,h2,hl,q⟩:=h;obtain⟨U,A0,sA⟩:=R.cmp;intro ac A outer sh hr;refine⟨_,(zc (seT 3 yQ (zF ze))
  (zc (seT 4 yQ v0)
  (zc (seT 5 yQ yd)
  (zc (z7h (cmT z6D v4 z0V)
   (zc (z7h (kZ ki (ixT v4 za) (z9j (v:= .ref U) rfl A0 rfl) (by with_unfolding_all rfl))
    (zc (jd (apP v3 (zb v4 ze)))
    (zf (seT 4 yQ (ixT v4 za)))))
   (zc (seT 5 yQ (zQ e hr.m (zb v4 (zb v1 (zb v2 ze)))))
   (zc (seT 4 yQ z0V)
   (zf (z7h (z2P (z1H v3 (λ_=>rfl)) (cmT zev v4 z0V))
    (zc (seT 6 yQ (z4B wU w0v w0w z4e v3))
    (zf (zD (cmT zM (ixT (pv 6) za) zo)
     (zf (seT 5 yQ (z7U v5)))
     (zf (zD (cmT zM v5 (cmE zM (ixT (pv 6) za) zo))
      (zf (seT 4 yQ (ixT (pv 6) za)))
      zv)))))))))))
  (zf (zr v5)))))),?_⟩
 generalize hK0:K=K1
 revert K1
 refine jj (by walk_at "cl") ?_;refine⟨(by show 0<=sizeLine;decide),λl hn=> ?_⟩;refine !?_;have put:∀o,zw H (upd H l o):=λo=>zB hn o
 have pU:∀{d:Cond} {v:V} (o:HO),zC H d v->zC (upd H l o) d v:=λo h=>h.mono (z02 hn)
 refine z0P (λm σ H'=>∃(fs:List (V×Cond)) (pv:V) (G:Bool) (J:Option V),σ= [some vc,some (.ref hp),some (.ref rp),some (.ref l),some pv,some (.bl G),J]/\H'=upd H l (.lst (fs.map (·.1)))/\
   (∀g∈fs,zC H g.2 g.1/\g.2.leaf=false/\g.2.ok hs)/\m<=c.size/\
   ((∃d,zC H d pv/\d.ok hs/\unw hs rs fs (ev hs rs d)=ev hs rs c/\m=d.size + wt fs)\/(pv= .non/\fs= []/\G=ev hs rs c/\m=0))) c.size
  ⟨[],vc,false,none,rfl,rfl,λ_ z=>(by cases z),ww _,.inl ⟨c,hc,ok,rfl,rfl⟩⟩ ?_
 rintro m σ H' ⟨fs,pv,G,J,rfl,rfl,hf,hm,dL⟩;rcases dL with⟨d,hd,A2,ed,rfl⟩ | ⟨rfl,rfl,rfl,rfl⟩
 ·-- the part is a condition
  obtain⟨pp,Ed,rfl,iW⟩:=hd.ref;refine !⟨rfl,!?_⟩;refine ifT (by rfl) ?_;refine⟨_,λσ' H' z=>z,?_⟩;refine z0P (λm1 σ H'=>∃(j:List (V×Cond)) (pv:V) (d1:Cond),σ= [some vc,some (.ref hp),some (.ref rp),some (.ref l),some pv,some (.bl G),J]/\H'=upd H l (.lst (j.map (·.1)))/\
   (∀g∈j,zC H g.2 g.1/\g.2.leaf=false/\g.2.ok hs)/\zC H d1 pv/\d1.ok hs/\unw hs rs j (ev hs rs d1)=ev hs rs c/\d1.size + wt j=d.size + wt fs/\m1=d1.size) d.size
   ⟨fs,_,d,rfl,rfl,hf,hd,A2,ed,rfl,rfl⟩ ?_
  rintro m1 σ H' ⟨j,Ee,d1,rfl,rfl,Y,B,N,u6,Ef,rfl⟩;have dU:(j.map (·.1)).length < sizeLine:=by
   rw [w9];exact zE (by have:=zc9 j;lia)
  obtain⟨p1,w1,u7,rfl,L,iw⟩:=B.head;refine !(zh (z02 hn _ _ L) zH ⟨U,!⟨.inr (sA _),rfl,rfl,!?_⟩⟩);cases lf:d1.leaf with
  | false=>
   refine ifT (by rw [iw,lf];rfl) ?_;refine⟨_,λσ' H' z=>z,?_⟩;obtain⟨y,r,d2,rfl,I,S,n,a2⟩:=B.down hs rs L lf N;refine !⟨.inl ⟨rfl,_,SqL.of zj⟩,!⟨l,_,!⟨rfl,zj,dU,?_⟩⟩⟩;refine !(zh (by rw [z1j];exact z02 hn _ _ L) j8 ?_);have h3:1<=wgt d1:=by cases d1 <;> simp only [wgt] <;> lia
   refine⟨d2.size,by lia,j ++ [(V.ref p1,d1)],y,d2,rfl,by rw [z1j,wD];rfl,?_,I,S,by rw [z72,a2];exact u6,by rw [z9t];show d2.size + (wt j + wgt d1)=_;lia,rfl⟩;intro g hg;rcases wB.mp hg with hg | hg
   ·exact Y g hg
   ·rw [wx.mp hg];exact⟨B,lf,N⟩
  | true=>
   refine ifF (by rw [iw,lf];rfl) ?_;refine !(!(!⟨d1,_,hp,rp,hs,rs,rfl,pU _ B,lf,N,(put _).seq h1,(put _).seq h2,hl,?_⟩));have Eg:=d1.size_pos;refine z0P (λZ σ H'=>∃(i:List (V×Cond)) (pv:V) (s:Bool) (C:Option V),σ= [some vc,some (.ref hp),some (.ref rp),some (.ref l),some pv,some (.bl s),C]/\H'=upd H l (.lst (i.map (·.1)))/\
    (∀g∈i,zC H g.2 g.1/\g.2.leaf=false/\g.2.ok hs)/\Z=i.length/\
    ((pv= .non/\unw hs rs i s=ev hs rs c/\wt i < d.size + wt fs)\/∃d2,zC H d2 pv/\d2.ok hs/\unw hs rs i (ev hs rs d2)=ev hs rs c/\d2.size + wt i < d.size + wt fs)) j.length
    ⟨j,.non,_,J,rfl,rfl,Y,rfl,.inl ⟨rfl,u6,by lia⟩⟩ ?_
   rintro Z σ H' ⟨i,Eh,s,C,rfl,rfl,D,rfl,cJ⟩;refine !⟨_,.inl ⟨_,SqL.of zj,rfl⟩,_,(!⟨rfl,!⟨rfl,rfl⟩⟩),?_⟩;rcases cJ with⟨rfl,n,l2⟩ | ⟨d2,I,S,n,l2⟩
   ·by_cases aq:i= []
    ·subst aq;refine ifF (by rfl) ?_;exact⟨0,by lia,[],.non,s,C,rfl,rfl,D,qQ _,.inr ⟨rfl,rfl,n,rfl⟩⟩
    ·obtain⟨gs,g,rfl⟩:=z6a aq;refine ifT (by simp) ?_;refine⟨_,λσ' H' z=>z,?_⟩;obtain⟨hg,lg,X⟩:=D g (wA _ (wx.mpr rfl));have t:∀g'∈gs,zC H g'.2 g'.1/\g'.2.leaf=false/\g'.2.ok hs:=λg' h=>D g' (wZ _ h)
     rw [z72]at n;rw [z9t]at l2;have u:gs.length < (gs ++ [g]).length:=by rw [wg,wS];lia
     refine !⟨.inl ⟨rfl,_,SqL.of zj⟩,l,_,g.1,rfl,rfl,zj,by rw [wD];exact z2T _ _,?_⟩;have eh:upd (upd H l (.lst ((gs ++ [g]).map (·.1)))) l (.lst (((gs ++ [g]).map (·.1)).dropLast))=upd H l (.lst (gs.map (·.1))):=by
      rw [z1j,wD]
      show upd H l (.lst ((gs.map (·.1) ++ [g.1]).dropLast))=_
      rw [w0B]
     rw [eh];obtain⟨gv,gc⟩:=g;cases gc with
     | less a b=>cases lg
     | same a b=>cases lg
     | no x=>
      obtain⟨p,y,ep,a9,_⟩:=hg;cases ep;refine !(zh (z02 hn _ _ a9) zH ⟨rfl,!?_⟩);refine ifT (by decide +kernel) ?_;refine !(!?_);exact⟨gs.length,u,gs,.non,not s,!⟨rfl,t,rfl,.inl ⟨rfl,n,by lia⟩⟩⟩
     | an x y=>
      obtain⟨p,vx,O,ep,a9,hx,M⟩:=hg;cases ep;refine !(zh (z02 hn _ _ a9) zH ⟨rfl,!?_⟩);refine ifF (by decide +kernel) ?_;refine !(!(zh (z02 hn _ _ a9) zH ⟨rfl,rfl,!?_⟩));cases s with
      | true=>
       refine ifT (by decide +kernel) ?_;refine !(zh (z02 hn _ _ a9) jz ?_);exact⟨gs.length,u,gs,O,true,!⟨rfl,t,rfl,.inr ⟨y,M,X.2,n,by simp only [wgt]at l2;lia⟩⟩⟩
      | false=>
       refine ifF (by decide +kernel) ?_;exact⟨gs.length,u,gs,.non,false,!⟨rfl,t,rfl,.inl ⟨rfl,n,by lia⟩⟩⟩
     | or x y=>
      obtain⟨p,vx,O,ep,a9,hx,M⟩:=hg;cases ep;refine !(zh (z02 hn _ _ a9) zH ⟨rfl,!?_⟩);refine ifF (by decide +kernel) ?_;refine !(!(zh (z02 hn _ _ a9) zH ⟨rfl,rfl,!?_⟩));cases s with
      | false=>
       refine ifT (by decide +kernel) ?_;refine !(zh (z02 hn _ _ a9) jz ?_);exact⟨gs.length,u,gs,O,false,!⟨rfl,t,rfl,.inr ⟨y,M,X.2,n,by simp only [wgt]at l2;lia⟩⟩⟩
      | true=>
       refine ifF (by decide +kernel) ?_;exact⟨gs.length,u,gs,.non,true,!⟨rfl,t,rfl,.inl ⟨rfl,n,by lia⟩⟩⟩
   ·obtain⟨p2,x2,rfl,aU⟩:=I.ref;refine ifF (by simp) ?_;exact⟨d2.size + wt i,l2,i,_,s,C,rfl,rfl,D,by lia,.inl ⟨d2,I,S,n,rfl⟩⟩
 ·-- no part is left
  refine !⟨rfl,!?_⟩;refine ifF (by rfl) ?_;refine !?_;exact q _ (put _)
inductive Kid where
 | s (x:Side) | c (x:Cond)
def Kid.At(H:Hp)(k:V×Kid):Prop:=match k.2 with
 | .s x=>k.1=x.v
 | .c x=>zC H x k.1
noncomputable def Kid.cols:Kid->List Str
 | .s x=>x.cols
 | .c x=>x.cols
noncomputable def Kid.size:Kid->Nat
 | .s _=>0
 | .c x=>x.size
theorem z9S{v:V}(h:zC H c v):∃(p:Addr) (w:Str) (ks:List (V×Kid)),v= .ref p/\H p=some (.tup (.str w :: ks.map (·.1)))/\ks.length<=2/\ks≠ []/\(∀k∈ks,Kid.At H k)/\(∀s,s∈c.cols↔∃k∈ks,s∈k.2.cols)/\(ks.map λk=>k.2.size).sum + 1=c.size:=by
 cases c with
 | less a b=>
  obtain⟨p,rfl,h⟩:=h;exact⟨p,_,[(a.v,.s a),(b.v,.s b)],rfl,h,by simp,by simp,by simp [Kid.At],by simp [Cond.cols,Kid.cols],rfl⟩
 | same a b=>
  obtain⟨p,rfl,h⟩:=h;exact⟨p,_,[(a.v,.s a),(b.v,.s b)],rfl,h,by simp,by simp,by simp [Kid.At],by simp [Cond.cols,Kid.cols],rfl⟩
 | no c=>
  obtain⟨p,x,rfl,h,h1⟩:=h;exact⟨p,_,[(x,.c c)],rfl,h,by simp,by simp,by simpa [Kid.At]using h1,by simp [Cond.cols,Kid.cols],rfl⟩
 | an c d=>
  obtain⟨p,x,y,rfl,h,h1,h2⟩:=h;exact⟨p,_,[(x,.c c),(y,.c d)],rfl,h,by simp,by simp,by simpa [Kid.At]using ⟨h1,h2⟩,by simp [Cond.cols,Kid.cols],by simp [Kid.size,Cond.size]⟩
 | or c d=>
  obtain⟨p,x,y,rfl,h,h1,h2⟩:=h;exact⟨p,_,[(x,.c c),(y,.c d)],rfl,h,by simp,by simp,by simpa [Kid.At]using ⟨h1,h2⟩,by simp [Cond.cols,Kid.cols],by simp [Kid.size,Cond.size]⟩
theorem za0(x:V)(r:List V):z1A (x :: r) (some 1) none=r:=by
 have e:HT.sIx (x :: r).length 0 (some 1)=1:=by
  have e:HT.sIx (x :: r).length 0 (some 1)=min 1 (r.length + 1):=rfl;rw [e]
  lia
 unfold z1A;rw [e]
 show(r.take ((r.length + 1) - 1))=r
 rw [w0Y,qc]
theorem z9B(x:V)(r:List V):¬(HT.sIx (x :: r).length 0 (some 1)=0/\HT.sIx (x :: r).length (x :: r).length none=(x :: r).length):=by
 rintro⟨h,_⟩;have e:HT.sIx (x :: r).length 0 (some 1)=min 1 (r.length + 1):=rfl;rw [e]at h
 lia
variable{ss:List Str}
theorem zbA{v:V}(b:kvs.map (·.1)=ss.map Sum.inr)(nd:ss.Nodup):
  ∃a:List Str,(putK kvs (Sum.inr n) v).map (·.1)=a.map Sum.inr/\a.Nodup/\∀s,s∈a↔s∈ss\/s=n:=by
 have mem:∀s,Sum.inr s∈kvs.map (·.1)↔s∈ss:=λs=>by
  rw [b];simp
 cases e:jV kvs (Sum.inr n:Key)with
 | some w=>
  have hn:n∈ss:=(mem n).mp (zd5 e);refine⟨ss,?_,nd,λs=>⟨.inl,λh=>h.elim id λz=>z ▸ hn⟩⟩;unfold putK;rw [z07,e];rw [Option.isSome_some,wY rfl,Qe,<-b];refine Qq λkv _=> ?_
  show(if kv.1=Sum.inr n then(kv.1,v)else kv).1=kv.1
  split <;> rfl
 | none=>
  have hn:n∉ss:=λz=>zaV e ((mem n).mpr z)
  refine⟨ss ++ [n],?_,z6l nd hn,λs=>by simp⟩;rw [z7C v e,wD,b,wD]
  rfl
inductive spCols (K:W.Frag) (vs:List V) (H:Hp) (Q:VK) (E:XK):Prop
 | mk:∀c vc (us:List Str),vs= [vc]->zC H c vc->c.size<=1000->(∀s∈c.cols,s∈us)->us.length<=60->(∀(l:Addr) (ss:List Str) (H':Hp),zw H H'->H' l=some (.lst (ss.map V.str))->ss.Nodup->(∀s,s∈ss↔s∈c.cols)->ss.Pairwise leS->Q (.ref l) H')->spCols K vs H Q E
noncomputable def z1B(fs:List (V×Cond)):Nat:=(fs.map λi=>i.2.size).sum
theorem z5t(a6:List (V×Cond))(i:V×Cond):z1B (a6 ++ [i])=z1B a6 + i.2.size:=by simp [z1B]
theorem z6L:∀a6:List (V×Cond),a6.length<=z1B a6
 | []=>ww _
 | i :: r=>by
  have h1:=z6L r;have h2:=i.2.size_pos;have a:z1B (i :: r)=i.2.size + z1B r:=by simp [z1B]
  rw [a,wN]
  lia
theorem yO:FnScope ["condition","names","waiting","part","inner"] ["condition"] (zi z1u):=by walk_at "s"
theorem z53(F:Fun K "columns_of" "columns_of" z1u f fd)(T:Txt K mg):FnOk P w K mg base CX0 1 f fd ["condition"] (spCols K):=by
 refine F.okB yO (λvs H Q E h=> ?_) (λvs H Q E h=> ?_)
 ·obtain⟨c,vc,us,rfl,_⟩:=h
  rfl
 obtain⟨c,vc,us,rfl,hc,hz,dF,A3,q⟩:=h;intro ac A outer sh hr;have hu:=z3w hr;refine⟨_,(zc (seT 1 yO z2W)
  (zc (seT 2 yO (zF (zb v0 ze)))
  (zc (z7h (z1H v2 (λ_=>rfl))
   (zc (seT 3 yO (z4B wU w0v w0w z4e v2))
   (zf (foR (z34 (jr z4F v3 (jH za) jX)) (gnM 4 yO)
    (zf (zD (ji (zP zX rfl T.isinstance q9 (zb v4 (zb (yb (v:= .ty "tuple") rfl T.tuple Qv rfl) ze))))
     (zf (jd (apP v2 (zb v4 ze))))
     (zf (zD (ji (zP zX rfl T.isinstance q9 (zb v4 (zb (yb (v:= .ty "str") rfl T.str Qd rfl) ze))))
      (zf (z6m hu v1 v4 yd rfl))
      zv))))))))
  (zf (zr (zP (z51 rfl) rfl T.sorted PyProof.Rows.boot_sorted (zN (pv 1) ze))))))),?_⟩
 generalize hK0:K=K1
 revert K1
 refine jj (by walk_at "cl") ?_;refine λd hd=> ?_
 refine !⟨(by show 1<=sizeLine;decide),λwt lH=> ?_⟩;have s1:=zB hd (.dK []);have s2:=zB lH (.lst [vc]);have fw:H wt=none:=s1.free lH;have U:d≠wt:=zq (H:=upd H d (.dK [])) zj lH;refine z4D ?_;dsimp only;refine z64 ?_;refine z0P (λm σ H'=>∃(fs:List (V×Cond)) (kvs:List (Key×V)) (ss:List Str) (o3 u:Option V),σ= [some vc,some (.ref d),some (.ref wt),o3,u]/\zw H H'/\H' wt=some (.lst (fs.map (·.1)))/\H' d=some (.dK kvs)/\
   kvs.map (·.1)=ss.map Sum.inr/\ss.Nodup/\(∀g∈fs,zC H g.2 g.1)/\(∀s,s∈c.cols↔s∈ss\/∃g∈fs,s∈g.2.cols)/\m=z1B fs/\m<=c.size) c.size
  ⟨[(vc,c)],[],[],none,none,rfl,s1.trans s2,zj,s2 _ _ zj,rfl,List.nodup_nil,by simpa using hc,by simp,by simp [z1B],ww _⟩ ?_
 rintro m σ H' ⟨fs,kvs,ss,o3,u,rfl,sH,M,u8,hk,nd,b,mem,rfl,hm⟩;have pW:kvs.length=ss.length:=by
  have:=Q6 List.length hk
  rwa [w9,w9]at this
 have u9:∀{ss:List Str},ss.Nodup->(∀s,s∈ss->s∈c.cols)->ss.length<=60:=λnd h=>wP (yZ nd λx J=>dF x (h x J)) A3
 refine !⟨_,.inl ⟨_,SqL.of M,rfl⟩,?_⟩;by_cases aq:fs= []
 ·subst aq;refine ifF (by rfl) ?_;have c7:∀s,s∈ss↔s∈c.cols:=λs=>by rw [mem s];simp
  have mY:=u9 nd λs h=>(c7 s).mp h
  refine !⟨d,kvs,ss,rfl,u8,hk,by lia,λl X hl pm so=> ?_⟩;exact q l X _ (sH.trans (zB hl _)) zj (pm.nodup_iff.mpr nd) (λs=>by rw [pm.mem_iff];exact c7 s) (zav so)
 ·obtain⟨gs,g,rfl⟩:=z6a aq;refine ifT (by simp) ?_;refine⟨_,λσ' H' z=>z,?_⟩;obtain⟨N,e⟩:=g;rw [z5t]at hm ⊢;replace hm:z1B gs + e.size<=c.size:=hm;have hg:zC H e N:=b (N,e) (by simp);have gu:∀g∈gs,zC H g.2 g.1:=λg h=>b g (by simp [h])
  have e1:((gs ++ [(N,e)]).map (·.1))=gs.map (·.1) ++ [N]:=by rw [wD];rfl
  rw [e1]at M;obtain⟨p,word,ks,rfl,hp,eM,Ei,A4,md,Ej⟩:=z9S hg;refine !⟨.inl ⟨rfl,_,SqL.of M⟩,wt,ex2 rfl rfl ⟨M,z2T _ _,?_⟩⟩;have eh:upd H' wt (.lst ((gs.map (·.1) ++ [V.ref p]).dropLast))=upd H' wt (.lst (gs.map (·.1))):=by
   rw [w0B]
  rw [eh];have S:zw H (upd H' wt (.lst (gs.map (·.1)))):=sH.put fw;have h3:upd H' wt (.lst (gs.map (·.1))) wt=some (.lst (gs.map (·.1))):=zj;have d3:upd H' wt (.lst (gs.map (·.1))) d=some (.dK kvs):=by rw [zl U];exact u8
  generalize upd H' wt (.lst (gs.map (·.1)))=H3 at S h3 d3 ⊢;refine !(!⟨p,!⟨SqT.of (S _ _ hp),z9B _ _,λt ht=> ?_⟩⟩);rw [za0];have O:=zB ht (.tup (ks.map (·.1)));have h4:=O _ _ h3;have d4:=O _ _ d3;have Z:upd H3 t (.tup (ks.map (·.1))) t=some (.tup (ks.map (·.1))):=zj;generalize upd H3 t (.tup (ks.map (·.1)))=H4 at O h4 d4 Z ⊢;have ua:(ks.map (·.1)).length=ks.length:=w9 _;refine⟨t,rfl,⟨_,SqT.of Z⟩,z5Y (K:=K) (a:=t) (xs:=ks.map (·.1)) (λi σ r=>∃(fs:List (V×Cond)) (kvs:List (Key×V)) (ss:List Str) (u:Option V),σ= [some vc,some (.ref d),some (.ref wt),some (.ref p),u]/\zw H r/\r t=some (.tup (ks.map (·.1)))/\r wt=some (.lst (fs.map (·.1)))/\r d=some (.dK kvs)/\
   kvs.map (·.1)=ss.map Sum.inr/\ss.Nodup/\(∀g∈fs,zC H g.2 g.1)/\(∀s,s∈c.cols↔s∈ss\/(∃g∈fs,s∈g.2.cols)\/∃k∈ks.drop i,s∈k.2.cols)/\z1B fs + ((ks.drop i).map λk=>k.2.size).sum + 1=z1B gs + e.size)
   ⟨gs,kvs,ss,u,rfl,S.trans O,Z,h4,d4,hk,nd,gu,λs=> ?_,by rw [w1b];lia⟩ (λi σ r _ ⟨_,_,_,_,_,_,R,_⟩=>SqT.of R) ?_ ?_⟩
  ·rw [mem s,w1b];constructor
   ·rintro(h | ⟨g,hg,h⟩)
    ·exact .inl h
    ·rcases wB.mp hg with hg | hg
     ·exact .inr (.inl ⟨g,hg,h⟩)
     ·rw [wx.mp hg]at h;exact .inr (.inr ((md s).mp h))
   ·rintro(h | ⟨g,hg,h⟩ | h)
    ·exact .inl h
    ·exact .inr ⟨g,wZ _ hg,h⟩
    ·exact .inr ⟨(V.ref p,e),by simp,(md s).mpr h⟩
  ·rintro i x σ r hi ⟨fs,kvs,ss,u,rfl,G,I,o,C,hk,nd,b,mem,D⟩;have Y:i < ks.length:=by
    have:=(we.mp hi).1
    rwa [ua]at this
   have J:x=ks[i].1:=by
    rw [wF,wa Y]at hi;exact(Option.some.inj hi).symm
   have ub:ks.drop i=ks[i] :: ks.drop (i + 1):=List.drop_eq_getElem_cons Y;have L:=A4 ks[i] (wu Y);obtain⟨⟨kv,kk⟩,A5⟩:∃k,ks[i]=k:=⟨_,rfl⟩
   rw [A5]at J L ub;replace J:kv=x:=J.symm;subst J;rw [ub]at mem D;have pW:kvs.length=ss.length:=by
    have:=Q6 List.length hk
    rwa [w9,w9]at this
   have mY:=u9 nd λs h=>(mem s).mpr (.inl h)
   have Ek:=z6L fs;have pX:((kv,kk) :: ks.drop (i + 1)).map (λk=>k.2.size)=kk.size :: (ks.drop (i + 1)).map (λk=>k.2.size):=rfl;rw [pX,List.sum_cons]at D;cases kk with
   | c y=>
    have B:zC H y kv:=L
    obtain⟨p2,x2,rfl,aU⟩:=B.ref;refine !⟨_,_,_,!⟨TyOf.tup (G _ _ aU),jK,!?_⟩⟩;refine z8t ?_;refine !⟨.inl ⟨rfl,_,SqL.of o⟩,!⟨wt,ex2 rfl rfl ⟨o,zE (by rw [w9];lia),?_⟩⟩⟩;have tw:t≠wt:=z3E I o (by intro z;cases z);refine⟨fs ++ [(V.ref p2,y)],kvs,ss,!⟨G.put fw,by rw [zl tw];exact I,by rw [zj,wD];rfl,by rw [zl U];exact C,hk,nd,λg hg=> ?_,λs=> ?_,?_⟩⟩
    ·rcases wB.mp hg with hg | hg
     ·exact b g hg
     ·rw [wx.mp hg];exact B
    ·rw [mem s];simp only [wG,wB,qi,QG];constructor
     ·rintro(h | ⟨g,hg,h⟩ | ⟨k,rfl | hk,h⟩)
      ·exact .inl h
      ·exact .inr (.inl ⟨g,.inl hg,h⟩)
      ·exact .inr (.inl ⟨_,.inr rfl,h⟩)
      ·exact .inr (.inr ⟨k,hk,h⟩)
     ·rintro(h | ⟨g,hg | rfl,h⟩ | ⟨k,hk,h⟩)
      ·exact .inl h
      ·exact .inr (.inl ⟨g,hg,h⟩)
      ·exact .inr (.inr ⟨_,.inl rfl,h⟩)
      ·exact .inr (.inr ⟨k,.inr hk,h⟩)
    ·rw [z5t]
     show z1B fs + y.size + _ + 1=_
     have:(Kid.c y).size=y.size:=rfl
     lia
   | s y=>
    cases y with
    | nm n=>
     have B:kv=V.str n:=L
     subst B;refine !⟨_,_,_,!⟨TyOf.str n,z50,!?_⟩⟩;refine z83 ?_;refine !⟨_,_,_,!⟨TyOf.str n,jK,!?_⟩⟩;refine z8t ?_;refine !(!⟨d,!⟨z8o.k (k:=Sum.inr n) C (zE (by lia)),?_⟩⟩);obtain⟨X,eJ,mZ,pY⟩:=zbA (n:=n) (v:=V.bl true) hk nd;have td:t≠d:=z3E I C (by intro z;cases z);have fd:H d=none:=hd;refine⟨fs,_,X,!⟨G.put hd,by rw [zl td];exact I,by rw [zl U.symm];exact o,zj,eJ,mZ,b,λs=> ?_,?_⟩⟩
     ·rw [mem s,pY s];simp only [wG];constructor
      ·rintro(h | h | ⟨k,rfl | hk,h⟩)
       ·exact .inl (.inl h)
       ·exact .inr (.inl h)
       ·exact .inl (.inr (by simpa [Kid.cols,Side.cols]using h))
       ·exact .inr (.inr ⟨k,hk,h⟩)
      ·rintro((h | rfl) | h | ⟨k,hk,h⟩)
       ·exact .inl h
       ·exact .inr (.inr ⟨_,.inl rfl,by simp [Kid.cols,Side.cols]⟩)
       ·exact .inr (.inl h)
       ·exact .inr (.inr ⟨k,.inr hk,h⟩)
     ·have:(Kid.s (.nm n)).size=0:=rfl
      lia
    | nu j=>
     have B:kv=V.int j:=L
     subst B;refine !⟨_,_,_,!⟨TyOf.int j,z57,!?_⟩⟩;refine z83 ?_;refine !⟨_,_,_,!⟨TyOf.int j,z1W,!?_⟩⟩;refine z83 ?_;refine⟨fs,kvs,ss,!⟨G,I,o,C,hk,nd,b,λs=> ?_,?_⟩⟩
     ·rw [mem s];simp only [wG];constructor
      ·rintro(h | h | ⟨k,rfl | hk,h⟩)
       ·exact .inl h
       ·exact .inr (.inl h)
       ·exact absurd h (by simp [Kid.cols,Side.cols])
       ·exact .inr (.inr ⟨k,hk,h⟩)
      ·rintro(h | h | ⟨k,hk,h⟩)
       ·exact .inl h
       ·exact .inr (.inl h)
       ·exact .inr (.inr ⟨k,.inr hk,h⟩)
     ·have:(Kid.s (.nu j)).size=0:=rfl
      lia
  ·rintro σ r ⟨fs,kvs,ss,u,rfl,G,I,o,C,hk,nd,b,mem,D⟩;have lJ:ks.drop (ks.map (·.1)).length= []:=by rw [ua,List.drop_length]
   rw [lJ]at mem D;replace D:z1B fs + 0 + 1=z1B gs + e.size:=D;exact⟨z1B fs,by show z1B fs < z1B gs + e.size;lia,fs,kvs,ss,_,!⟨G,o,C,hk,nd,b,λs=>by rw [mem s];simp,rfl,by lia⟩⟩
noncomputable def joinR(rows others:List (List Int))(s t:Nat):List (List Int):=rows.flatMap λr=>(others.filter λo=>decide (r.getD s 0=o.getD t 0)).map λo=>r ++ o
variable{others:List (List Int)}
theorem z7S(h:rows[i]? =some r):joinR (rows.take (i + 1)) others s t=joinR (rows.take i) others s t ++ (others.filter λo=>decide (r.getD s 0=o.getD t 0)).map λo=>r ++ o:=by
 unfold joinR;rw [wQ,h,w0P];simp
inductive spJoined (K:W.Frag) (vs:List V) (H:Hp) (Q:VK) (E:XK):Prop
 | mk:∀a b rs os s t,vs= [.ref a,.ref b,.int s,.int t]->RowsAt H a rs->RowsAt H b os->0<=s->0<=t->(∀r∈rs,s.toNat < r.2.length/\r.2.length<=100)->(∀r∈os,t.toNat < r.2.length/\r.2.length<=100)->rs.length<=100->os.length<=100->(∀(p:Addr) (qs:List (Addr×List Int)) (H':Hp),zw H H'->RowsAt H' p qs->qs.map (·.2)=joinR (rs.map (·.2)) (os.map (·.2)) s.toNat t.toNat->Q (.ref p) H')->spJoined K vs H Q E
def z6U{s:Int}(h0:0<=s)(h:s.toNat < x.length):atI (x.map V.int) s=some (.int (x.getD s.toNat 0)):=z8L h0 (int_at h)
noncomputable def z0i(os:List (Addr×List Int))(t:Nat)(z:Int):List (Addr×List Int):=os.filter λo=>decide (o.2.getD t 0=z)
theorem kI:z0i (os ++ [o]) t z=z0i os t z ++ (if o.2.getD t 0=z then [o]else []):=by
 unfold z0i;rw [w0u];by_cases h:o.2.getD t 0=z
 ·rw [wY h,w1g,wY (wL h)];rfl
 ·rw [wM h,w1g,wM (by rw [wH h];exact wO)];rfl
structure Gath(H H':Hp)(dp:Addr)(kvs:List (Key×V))(os:List (Addr×List Int))(t:Nat):Prop where
 same:zw H H'
 free:H dp=none
 dict:H' dp=some (.dK kvs)
 len:kvs.length<=os.length
 no:∀z:Int,jV kvs (.inl z)=none->z0i os t z= []
 yes:∀(z:Int) v,jV kvs (.inl z)=some v->∃p,v= .ref p/\H' p=some (.lst (refs (z0i os t z)))/\H p=none
 inj:∀(z z':Int) p,jV kvs (.inl z)=some (.ref p)->jV kvs (.inl z')=some (.ref p)->z=z'
def Gath.new(g:Gath H H' dp kvs os t)(s:zw H' H1):Gath H H1 dp kvs os t:=
 ⟨g.same.trans s,g.free,s _ _ g.dict,g.len,g.no,λz v e=>let ⟨p,a,b,c⟩:=g.yes z v e;⟨p,a,s _ _ b,c⟩,g.inj⟩
theorem z9V{r:Addr×List Int}:refs (rs ++ [r])=refs rs ++ [V.ref r.1]:=by simp [refs]
theorem Gath.more(g:Gath H H' dp kvs os t)(e:jV kvs (.inl (o.2.getD t 0))=some (.ref p)):
  Gath H (upd H' p (.lst (refs (z0i os t (o.2.getD t 0)) ++ [V.ref o.1]))) dp kvs (os ++ [o]) t:=by
 obtain⟨p',b,hp,fp⟩:=g.yes _ _ e;cases b;refine⟨g.same.put fp,g.free,?_,by rw [wg];have:=g.len;lia,λz hz=> ?_,λz v hz=> ?_,g.inj⟩
 ·rw [zl (z3E g.dict hp (by intro z;cases z))];exact g.dict
 ·rw [kI,g.no z hz,wM (λq=>by rw [q,hz]at e;cases e)]
  rfl
 ·obtain⟨q,rfl,hq,a⟩:=g.yes z v hz;refine⟨q,rfl,?_,a⟩;by_cases bB:q=p
  ·subst bB;have:=g.inj _ _ _ e hz;subst this;rw [zj,kI,wY rfl,z9V]
  ·rw [zl bB,kI,wM (λw=>by subst w;rw [e]at hz;cases hz;exact bB rfl),Ql];exact hq
theorem Gath.first(g:Gath H H' dp kvs os t)(e:jV kvs (.inl (o.2.getD t 0))=none)(hn:H' p=none)(h1:zw H' H1)(hp:H1 p=some (.lst [])):
  Gath H (upd (upd H1 dp (.dK (putK kvs (.inl (o.2.getD t 0)) (.ref p)))) p (.lst [V.ref o.1])) dp (putK kvs (.inl (o.2.getD t 0)) (.ref p)) (os ++ [o]) t:=by
 have f:dp≠p:=zq g.dict hn;have c:=g.new h1;refine⟨(c.same.put g.free).put (g.same.free hn),g.free,by rw [zl f,zj],?_,λz hz=> ?_,λz v hz=> ?_,λz z' q h1 h2=> ?_⟩
 ·rw [wg];have:=z0I kvs (.inl (o.2.getD t 0)) (.ref p);have:=g.len;simp only [wS]
  lia
 ·rw [z4m]at hz;split at hz
  ·cases hz
  ·rename_i d;rw [kI,g.no z hz,wM (λq=>d (by rw [q]))]
   rfl
 ·rw [z4m]at hz;split at hz
  ·rename_i he;cases hz;have h:z=o.2.getD t 0:=Sum.inl.inj he;subst h;refine⟨p,rfl,?_,g.same.free hn⟩;rw [zj,kI,g.no _ e,wY rfl]
   rfl
  ·rename_i d;obtain⟨q,rfl,hq,i⟩:=c.yes z v hz;obtain⟨q',a,b,_⟩:=g.yes z _ hz;cases a;refine⟨q,rfl,?_,i⟩;rw [zl (zq b hn),zl (z3E hq c.dict (by intro z;cases z)),kI,wM (λw=>d (by rw [w])),Ql];exact hq
 ·rw [z4m]at h1 h2;split at h1
  ·rename_i a1;split at h2
   ·rename_i a2;exact Sum.inl.inj (a1.trans a2.symm)
   ·cases h1;obtain⟨q',a,b,_⟩:=g.yes z' _ h2;cases a;exact absurd rfl (zq b hn)
  ·split at h2
   ·cases h2;obtain⟨q',a,b,_⟩:=g.yes z _ h1;cases a;exact absurd rfl (zq b hn)
   ·exact g.inj z z' q h1 h2
theorem zap:(z0i os t z).map (·.2)=(os.map (·.2)).filter λo=>decide (z=o.getD t 0):=by
 unfold z0i
 induction os with
 | nil=>rfl
 | cons o os a=>
  rw [qC,w1g,w1g];by_cases h:o.2.getD t 0=z
  ·rw [wY (wL h),wY (wL h.symm),qC,a]
  ·rw [wM (by rw [wH h];exact wO),wM (by rw [wH (p:=z=o.2.getD t 0) λw=>h w.symm];exact wO),a]
theorem z0v:FnScope ["rows","others","spot","place","gathered","other","found","row"] ["rows","others","spot","place"] (zi z4u):=by walk_at "s"
theorem zaj(F:Fun K "joined" "joined" z4u f fd)(T:Txt K mg):FnOk P w K mg base CX0 1 f fd ["rows","others","spot","place"] (spJoined K):=by
 refine F.okB z0v (λvs H Q E h=> ?_) (λvs H Q E h=> ?_)
 ·obtain⟨a,b,rs,os,s,t,rfl,_⟩:=h
  rfl
 obtain⟨a,b,rs,os,s,t,rfl,ha,L,s0,t0,fK,eD,pI,A7,q⟩:=h;intro ac A outer sh hr;have hu:=z3w hr;refine⟨_,(zc (seT 4 z0v z2W)
  (zc (foR (zR v1) (gnM 5 z0v)
   (zf (jd (apP (z8v v4 (ixL v5 v3) (zF ze) ⟨rfl,rfl,rfl,rfl⟩) (zb v5 ze)))))
  (zc (seT 6 z0v (zF ze))
  (zc (foR (zR v0) (gnM 7 z0v)
   (zf (foR (zR (z48 hu v4 (ixL (pv 7) v2) (zF ze) ⟨rfl,rfl,rfl,rfl⟩)) (gnM 5 z0v)
    (zf (jd (apP (pv 6) (yo (zp kC (pv 7) v5) ze)))))))
  (zf (zr (pv 6))))))),?_⟩
 generalize hK0:K=K1
 revert K1
 refine jj (by walk_at "cl") ?_;have aw:(refs rs).length=rs.length:=w9 _;have gN:(refs os).length=os.length:=w9 _;have Z:0<=sizeLine:=by decide
 refine λdp C=> ?_
 have s1:=zB C (.dK []);refine !⟨b,rfl,⟨_,SqL.of (s1 _ _ L.1)⟩,yg (K:=K) (a:=b) (xs:=refs os) (λj σ H'=>∃(kvs:List (Key×V)) (c:Option V),σ= [some (.ref a),some (.ref b),some (.int s),some (.int t),some (.ref dp),c,none,none]/\Gath H H' dp kvs (os.take j) t.toNat)
  ⟨[],none,rfl,s1,C,zj,ww _,λ_ _=>rfl,λz v e=>(by cases e),λz z' p e=>(by cases e)⟩ (λi σ H' _ ⟨_,_,_,g⟩=>SqL.of (g.same _ _ L.1)) ?_ ?_⟩
 ·rintro j x σ H2 n ⟨kvs,c,rfl,g⟩;have l:j < os.length:=by
   have:=(we.mp n).1
   rwa [gN]at this
  rw [jZ l]at n;cases n;obtain⟨eI,gL⟩:=eD _ (wu l);have U:=g.same _ _ (L.2 _ (wu l)).2;have tk:os.take (j + 1)=os.take j ++ [os[j]]:=by rw [wQ,wa l];rfl
  have lt:(os.take j).length<=100:=by rw [wK];lia
  refine !⟨dp,rfl,.inl ⟨_,.inl g.dict⟩,!(!(zu U (z6U t0 eI) ⟨Z,λnp B=> ?_⟩))⟩;have d:=zB B (.lst []);have np1:upd H2 np (.lst []) np=some (.lst []):=zj;generalize upd H2 np (.lst [])=H3 at d np1 ⊢;have I:=g.new d;refine⟨kvs,.inl (os[j].2.getD t.toNat 0),I.dict,rfl,zE (by have:=g.len;lia),λv u=> ?_,λu=> ?_⟩
  ·obtain⟨p,rfl,hp,fp⟩:=I.yes _ _ u;refine⟨.inl ⟨rfl,_,SqL.of hp⟩,!⟨p,ex2 rfl rfl ⟨hp,zE (by rw [w9];have:(z0i (os.take j) t.toNat (os[j].2.getD t.toNat 0)).length<=(os.take j).length:=qh _ _;lia),?_⟩⟩⟩;refine⟨kvs,!?_⟩;rw [tk];exact I.more u
  ·have na:np≠dp:=(zq g.dict B).symm;refine⟨.inl ⟨rfl,_,SqL.of (by rw [zl na];exact np1)⟩,!⟨np,ex2 rfl rfl ⟨by rw [zl na];exact np1,zE (by decide),?_⟩⟩⟩;refine⟨putK kvs (.inl (os[j].2.getD t.toNat 0)) (.ref np),!?_⟩;rw [tk];exact g.first u B d np1
 ·rintro σ H2 ⟨kvs,c,rfl,g⟩;rw [gN,qc]at g;refine⟨Z,λfp R=> ?_⟩;have f1:=zB R (.lst []);have uc:upd H2 fp (.lst []) fp=some (.lst []):=zj;generalize upd H2 fp (.lst [])=H3 at f1 uc ⊢;have I:=g.new f1;have El:H fp=none:=g.same.free R;refine !⟨a,rfl,⟨_,SqL.of (I.same _ _ ha.1)⟩,yg (K:=K) (a:=a) (xs:=refs rs) (λi σ H'=>∃(ds:List (Addr×List Int)) (c X:Option V),σ= [some (.ref a),some (.ref b),some (.int s),some (.int t),some (.ref dp),c,some (.ref fp),X]/\zw H2 H'/\RowsAt H' fp ds/\
   ds.map (·.2)=joinR ((rs.map (·.2)).take i) (os.map (·.2)) s.toNat t.toNat/\ds.length<=i * 100) ⟨[],c,none,rfl,f1,yB uc,rfl,ww _⟩ (λi σ H' _ ⟨_,_,_,_,sm,_⟩=>SqL.of (sm _ _ (g.same _ _ ha.1))) ?_ ?_⟩
  ·rintro i x σ M hi ⟨ds,c,X,rfl,S,hd,r,N⟩;have G:i < rs.length:=by
    have:=(we.mp hi).1
    rwa [aw]at this
   rw [jZ G]at hi;cases hi;obtain⟨dP,cj⟩:=fK _ (wu G);have Y:=g.new S;have hR:=Y.same _ _ (ha.2 _ (wu G)).2;refine !⟨dp,rfl,.inl ⟨_,.inl Y.dict⟩,!(!(zu hR (z6U s0 dP) ⟨Z,λnp B=> ?_⟩))⟩;have d:=zB B (.lst []);have np1:upd M np (.lst []) np=some (.lst []):=zj;generalize upd M np (.lst [])=H5 at d np1 ⊢;have g5:=Y.new d;have s5:=S.trans d;have A8:=hd.same d;refine⟨_,z3G.k (k:= .inl (rs[i].2.getD s.toNat 0)) g5.dict,?_⟩;obtain⟨p,ep,hp,gY⟩:∃p,(jV kvs (.inl (rs[i].2.getD s.toNat 0))).getD (.ref np)= .ref p/\H5 p=some (.lst (refs (z0i os t.toNat (rs[i].2.getD s.toNat 0))))/\p≠fp:=by
    cases u:jV kvs (.inl (rs[i].2.getD s.toNat 0))with
    | none=>exact⟨np,rfl,by rw [g.no _ u];exact np1,(zq hd.1 B).symm⟩
    | some v=>
     obtain⟨p,rfl,hp,_⟩:=g.yes _ _ u;exact⟨p,rfl,s5 _ _ hp,zq hp R⟩
   rw [ep];have O:(refs (z0i os t.toNat (rs[i].2.getD s.toNat 0))).length=(z0i os t.toNat (rs[i].2.getD s.toNat 0)).length:=w9 _;have hF:∀o∈z0i os t.toNat (rs[i].2.getD s.toNat 0),o∈os:=λo m=>(Qf.mp m).1
   have lF:(z0i os t.toNat (rs[i].2.getD s.toNat 0)).length<=100:=wP (qh _ _) A7;have eF:(z0i os t.toNat (rs[i].2.getD s.toNat 0)).map (·.2)=(os.map (·.2)).filter λo=>decide (rs[i].2.getD s.toNat 0=o.getD t.toNat 0):=zap
   generalize z0i os t.toNat (rs[i].2.getD s.toNat 0)=fs at hp O hF lF eF ⊢;refine⟨p,rfl,⟨_,SqL.of hp⟩,yg (K:=K) (a:=p) (xs:=refs fs) (λj σ H'=>∃(ds:List (Addr×List Int)) (c:Option V),σ= [some (.ref a),some (.ref b),some (.int s),some (.int t),some (.ref dp),c,some (.ref fp),some (.ref rs[i].1)]/\zw H2 H'/\H' p=some (.lst (refs fs))/\RowsAt H' fp ds/\
    ds.map (·.2)=joinR ((rs.map (·.2)).take i) (os.map (·.2)) s.toNat t.toNat ++ ((fs.map (·.2)).take j).map (λo=>rs[i].2 ++ o)/\ds.length<=i * 100 + j)
    ⟨ds,c,rfl,s5,hp,A8,by rw [r];simp,by lia⟩ (λj σ H' _ ⟨_,_,_,_,z,_⟩=>SqL.of z) ?_ ?_⟩
   ·rintro j y σ H6 n ⟨ds,c,rfl,J,fJ,hd,r,N⟩;have l:j < fs.length:=by
     have:=(we.mp n).1
     rwa [O]at this
    rw [jZ l]at n;cases n;have mo:=hF _ (wu l);obtain⟨eI,gL⟩:=eD _ mo;have hR:=J _ _ (g.same _ _ (ha.2 _ (wu G)).2);have U:=J _ _ (g.same _ _ (L.2 _ mo).2);refine !⟨.inl ⟨rfl,_,SqL.of hd.1⟩,!(!⟨_,_,ex2 rfl rfl ⟨hR,U,jb (by rw [w9,w9];lia),λq1 D=> ?_⟩⟩)⟩;have d:=zB D (.lst (rs[i].2.map V.int ++ fs[j].2.map V.int));have cW:=hd.same d;refine⟨fp,ex2 rfl rfl ⟨cW.1,zE (by rw [w9];lia),?_⟩⟩;have nq:q1≠fp:=(zq hd.1 D).symm;refine⟨ds ++ [(q1,rs[i].2 ++ fs[j].2)],!⟨(J.trans d).put R,by rw [zl gY];exact d _ _ fJ,cW.push nq (by rw [zj,wD]),?_,by rw [wg,wS];lia⟩⟩;rw [wD,r,wQ,z1p l,wD,w0f]
    rfl
   ·rintro σ H6 ⟨ds,c,rfl,J,fJ,hd,r,N⟩;refine⟨ds,_,!⟨J,hd,?_,by rw [O]at N;lia⟩⟩;rw [r,z7S (z1p G),O,show(fs.map (·.2)).take fs.length=fs.map (·.2)from qS (by rw [w9];exact ww _),eF]
  ·rintro σ M ⟨ds,c,X,rfl,S,hd,r,N⟩;refine !(q fp ds M (g.same.trans S) hd ?_);rw [r,aw,show(rs.map (·.2)).take rs.length=rs.map (·.2)from qS (by rw [w9];exact ww _)]
noncomputable def z0G(k v:Int)(m:List Int):List Int:=if m.getD 0 0=k then [m.getD 0 0,m.getD 1 0 + 1,m.getD 2 0 + v]else m
noncomputable def z1E(acc:List (List Int))(k v:Int):List (List Int):=acc.map (z0G k v) ++ (if(acc.any λm=>decide (m.getD 0 0=k))=true then []else [[k,1,v]])
noncomputable def yM(rows:List (List Int))(s t:Nat):List (List Int):=rows.foldl (λacc r=>z1E acc (r.getD s 0) (r.getD t 0)) []
theorem z7r(h:rows[i]? =some r):yM (rows.take (i + 1)) s t=z1E (yM (rows.take i) s t) (r.getD s 0) (r.getD t 0):=by
 unfold yM;rw [wQ,h,w0M]
 rfl
inductive spGrouped (K:W.Frag) (vs:List V) (H:Hp) (Q:VK) (E:XK):Prop
 | mk:∀a rs s t,vs= [.ref a,.int s,.int t]->RowsAt H a rs->0<=s->0<=t->(∀r∈rs,s.toNat < r.2.length/\t.toNat < r.2.length/\r.2.length<=100)->rs.length<=100->(∀(p:Addr) (qs:List (Addr×List Int)) (H':Hp),zw H H'->RowsAt H' p qs->qs.map (·.2)=yM (rs.map (·.2)) s.toNat t.toNat->Q (.ref p) H')->spGrouped K vs H Q E
theorem three{m:List Int}(h:m.length=3):m= [m.getD 0 0,m.getD 1 0,m.getD 2 0]:=by
 match m,h with
 | [x,y,z],_=>rfl
noncomputable def view(c:Nat)(acc:List (List Int)):List (Key×V):=acc.map λm=>((.inl (m.getD 0 0):Key),V.int (m.getD c 0))
theorem z2K{c:Nat}{k:Int}:jV (view c acc) (.inl k)=(acc.find? λm=>decide (m.getD 0 0=k)).map λm=>V.int (m.getD c 0):=by
 unfold jV view;rw [List.find?_map,Option.map_map];have:((λkv:Key×V=>decide (kv.1=Sum.inl k)) ∘ λm:List Int=>((.inl (m.getD 0 0):Key),V.int (m.getD c 0)))=λm=>decide (m.getD 0 0=k):=by
  funext m
  simp
 rw [this]
 rfl
theorem z5h(nd:(acc.map λm=>m.getD 0 0).Nodup){m:List Int}(h:m∈acc):acc.find? (λx=>decide (x.getD 0 0=m.getD 0 0))=some m:=by
 induction acc with
 | nil=>cases h
 | cons a r c=>
  rw [qC,w00]at nd;rw [w0I];rcases wG.mp h with rfl | h
  ·simp
  ·have b:a.getD 0 0≠m.getD 0 0:=λz=>nd.1 (qe.mpr ⟨m,h,z.symm⟩)
   rw [wH b];exact c nd.2 h
theorem zbp{k v:Int}{m:List Int}:(z0G k v m).getD 0 0=m.getD 0 0:=by
 unfold z0G;split <;> rfl
theorem z9W{k v:Int}(nd:(acc.map λm=>m.getD 0 0).Nodup):((z1E acc k v).map λm=>m.getD 0 0).Nodup:=by
 unfold z1E;rw [wD,Qe];have e:((λm:List Int=>m.getD 0 0) ∘ z0G k v)=λm=>m.getD 0 0:=by
  funext m;exact zbp
 rw [e];split
 ·simpa using nd
 ·rename_i hn;refine z6l nd λhm=>hn ?_
  obtain⟨m,hm,e⟩:=qe.mp hm;exact QF.mpr ⟨m,hm,wL e⟩
theorem z6Z{c:Nat}{k v d f:Int}(nd:(acc.map λm=>m.getD 0 0).Nodup)(hc:(c=1/\d=1)\/(c=2/\d=v))(a:(jV (view c acc) (.inl k)).getD (.int 0)= .int f):
  putK (view c acc) (.inl k) (.int (f + d))=view c (z1E acc k v):=by
 rw [z2K]at a;cases hf:acc.find? λm=>decide (m.getD 0 0=k)with
 | none=>
  rw [hf]at a;have a:V.int 0=V.int f:=a;cases a;have l:∀m∈acc,m.getD 0 0≠k:=λm hm=>by simpa using List.find?_eq_none.mp hf m hm
  have i:¬(acc.any λm=>decide (m.getD 0 0=k))=true:=λh=>by
   obtain⟨m,hm,e⟩:=QF.mp h;exact l m hm (qA e)
  rw [z7C _ (by rw [z2K,hf];rfl)];unfold z1E view;rw [wM i,wD]
  congr 1
  ·rw [Qe];refine Qq λm hm=> ?_
   show _=((.inl ((z0G k v m).getD 0 0):Key),V.int ((z0G k v m).getD c 0))
   unfold z0G;rw [wM (l m hm)]
  ·rcases hc with⟨rfl,rfl⟩ | ⟨rfl,rfl⟩ <;> simp
 | some b=>
  rw [hf]at a;have a:V.int (b.getD c 0)=V.int f:=a;cases a;have j:b∈acc:=List.mem_of_find?_eq_some hf;have n:b.getD 0 0=k:=by simpa using List.find?_some hf
  have i:(acc.any λm=>decide (m.getD 0 0=k))=true:=QF.mpr ⟨b,j,wL n⟩;have uniq:∀m∈acc,m.getD 0 0=k->m=b:=λm hm e=>by
   have:=z5h nd hm;rw [e,hf]at this;exact(Option.some.inj this).symm
  unfold putK;have ha:((view c acc).any λkv=>decide (kv.1=(.inl k:Key)))=true:=by
   unfold view;rw [List.any_map];exact QF.mpr ⟨b,j,by show decide ((.inl (b.getD 0 0):Key)= .inl k)=true;rw [n];exact wL rfl⟩
  rw [wY ha];unfold z1E view;rw [wY i,Ql,Qe,Qe];refine Qq λm hm=> ?_
  show(if(.inl (m.getD 0 0):Key)= .inl k then _ else _)=((.inl ((z0G k v m).getD 0 0):Key),V.int ((z0G k v m).getD c 0))
  unfold z0G;by_cases e:m.getD 0 0=k
  ·rw [wY (by rw [e]),wY e,uniq m hm e];rcases hc with⟨rfl,rfl⟩ | ⟨rfl,rfl⟩ <;> simp
  ·rw [wM (λz=>e (Sum.inl.inj z)),wM e]
theorem zaI{k v:Int}:(z1E acc k v).length<=acc.length + 1:=by
 unfold z1E;rw [wg,w9];split <;> simp
theorem z8D{k v:Int}(h:∀m∈acc,m.length=3):∀m∈z1E acc k v,m.length=3:=λm hm=>by
 unfold z1E at hm;rcases wB.mp hm with hm | hm
 ·obtain⟨x,a,rfl⟩:=qe.mp hm;unfold z0G;split
  ·rfl
  ·exact h x a
 ·split at hm
  ·cases hm
  ·rw [wx.mp hm];rfl
theorem zaF{c:Nat}{k:Int}:∃a,(jV (view c acc) (.inl k)).getD (.int 0)=V.int a:=by
 rw [z2K];cases acc.find? λm=>decide (m.getD 0 0=k)with
 | none=>exact⟨0,rfl⟩
 | some m=>exact⟨_,rfl⟩
theorem z0A:FnScope ["rows","spot","place","many","total","row","number"] ["rows","spot","place"] (zi z25):=by walk_at "s"
theorem z85(F:Fun K "grouped" "grouped" z25 f fd)(T:Txt K mg):FnOk P w K mg base CX0 2 f fd ["rows","spot","place"] (spGrouped K):=by
 refine F.okB z0A (λvs H Q E h=> ?_) (λvs H Q E h=> ?_)
 ·obtain⟨a,rs,s,t,rfl,_⟩:=h
  rfl
 obtain⟨a,rs,s,t,rfl,ha,s0,t0,fK,pI,q⟩:=h;intro ac A outer sh hr;have u:=z3w hr;refine⟨_,(zc (yI (i:=3) z0A.nd rfl (QI rfl) z2W)
  (zc (yI (i:=4) z0A.nd rfl (QI rfl) z2W)
  (zc (foR (zR v0) (gnM 5 z0A)
   (zc (seT 6 z0A (ixL v5 v1))
   (zc (z6m u v3 (pv 6) (zp yy (z48 u v3 (pv 6) za ⟨rfl,rfl,rfl,rfl⟩) za) rfl)
   (zf (z6m u v4 (pv 6) (zp yy (z48 u v4 (pv 6) za ⟨rfl,rfl,rfl,rfl⟩) (ixL v5 v2)) rfl)))))
  (zf (zr (jC rfl (CompSc.of (sx:=zi z25) (NX:= ["rows","spot","place","many","total","row","number"]) (fr:= ["many","total"]) (ix:= [3,4]) rfl rfl (by decide +kernel)) (zcv v3) (λ_ _ _ _ _ _=>jg) (λ_ _ _ _ _ _=>(zF (zb v0 (zm (z9e u v1 v0 (λ_ _=>rfl)) (zm (z9e u v2 v0 (λ_ _=>rfl)) ze))))))))))),?_⟩
 generalize hK0:K=K1
 revert K1
 refine jj (by walk_at "cl") ?_;have aw:(refs rs).length=rs.length:=w9 _;refine λmp L=> ?_
 have S:=zB L (.dK []);have X:upd H mp (.dK []) mp=some (.dK []):=zj;generalize upd H mp (.dK [])=H1 at S X ⊢;refine λtp N=> ?_
 have Y:=zB N (.dK []);have ue:upd H1 tp (.dK []) tp=some (.dK []):=zj;have R:mp≠tp:=zq X N;have A9:H tp=none:=S.free N;have uf:=Y _ _ X;generalize upd H1 tp (.dK [])=H2 at Y ue uf ⊢;have D:=S.trans Y;refine !⟨a,rfl,⟨_,SqL.of (D _ _ ha.1)⟩,yg (K:=K) (a:=a) (xs:=refs rs) (λi σ H'=>∃(M U:Option V),σ= [some (.ref a),some (.int s),some (.int t),some (.ref mp),some (.ref tp),M,U]/\zw H H'/\
  H' mp=some (.dK (view 1 (yM ((rs.map (·.2)).take i) s.toNat t.toNat)))/\H' tp=some (.dK (view 2 (yM ((rs.map (·.2)).take i) s.toNat t.toNat)))/\
  ((yM ((rs.map (·.2)).take i) s.toNat t.toNat).map λm=>m.getD 0 0).Nodup/\(yM ((rs.map (·.2)).take i) s.toNat t.toNat).length<=i/\∀m∈yM ((rs.map (·.2)).take i) s.toNat t.toNat,m.length=3)
  ⟨none,none,rfl,D,uf,ue,List.nodup_nil,ww _,λ_ z=>(by cases z)⟩ (λi σ H' _ ⟨_,_,_,D,_⟩=>SqL.of (D _ _ ha.1)) ?_ ?_⟩
 ·rintro i x σ b hi ⟨M,U,rfl,G,hm,ht,nd,ln,o⟩;have B:i < rs.length:=by
   have:=(we.mp hi).1
   rwa [aw]at this
  rw [jZ B]at hi;cases hi;obtain⟨dP,cj,Em⟩:=fK _ (wu B);have hR:=G _ _ (ha.2 _ (wu B)).2;have gt:=z7r (s:=s.toNat) (t:=t.toNat) (z1p B);generalize yM ((rs.map (·.2)).take i) s.toNat t.toNat=acc at hm ht nd ln o gt;obtain⟨c1,e1⟩:=zaF (c:=1) (acc:=acc) (k:=rs[i].2.getD s.toNat 0);obtain⟨c2,e2⟩:=zaF (c:=2) (acc:=acc) (k:=rs[i].2.getD s.toNat 0);have I:∀c,(view c acc).length < sizeLine:=λc=>zE (by unfold view;rw [w9];lia)
  refine !(!(zu hR (z6U s0 dP) ?_));refine !⟨mp,rfl,.inl ⟨_,.inl hm⟩,!⟨_,z3G.k (k:= .inl (rs[i].2.getD s.toNat 0)) hm,c1,1,e1,rfl,!(!⟨mp,!⟨z8o.k (k:= .inl (rs[i].2.getD s.toNat 0)) hm (I 1),?_⟩⟩)⟩⟩;rw [z6Z nd (.inl ⟨rfl,rfl⟩) e1 (v:=rs[i].2.getD t.toNat 0)];have n:upd b mp (.dK (view 1 (z1E acc (rs[i].2.getD s.toNat 0) (rs[i].2.getD t.toNat 0)))) mp=_:=zj;have d:upd b mp (.dK (view 1 (z1E acc (rs[i].2.getD s.toNat 0) (rs[i].2.getD t.toNat 0)))) tp=_:=(zl R.symm).trans ht;have Z:zw H (upd b mp (.dK (view 1 (z1E acc (rs[i].2.getD s.toNat 0) (rs[i].2.getD t.toNat 0))))):=G.put L;generalize upd b mp (.dK (view 1 (z1E acc (rs[i].2.getD s.toNat 0) (rs[i].2.getD t.toNat 0))))=H4 at n d Z ⊢;have Aa:=Z _ _ (ha.2 _ (wu B)).2;refine !⟨tp,rfl,.inl ⟨_,.inl d⟩,!⟨_,z3G.k (k:= .inl (rs[i].2.getD s.toNat 0)) d,!(!(zu Aa (z6U t0 cj) ⟨c2,_,e2,rfl,!(!⟨tp,!⟨z8o.k (k:= .inl (rs[i].2.getD s.toNat 0)) d (I 2),?_⟩⟩)⟩))⟩⟩;rw [z6Z nd (.inr ⟨rfl,rfl⟩) e2 (v:=rs[i].2.getD t.toNat 0)];rw [gt];refine⟨_,!⟨Z.put A9,by rw [zl R];exact n,zj,z9W nd,wP zaI (by lia),z8D o⟩⟩
 ·rintro σ b ⟨M,U,rfl,G,hm,ht,nd,ln,o⟩;rw [aw,show(rs.map (·.2)).take rs.length=rs.map (·.2)from qS (by rw [w9];exact ww _)]at hm ht nd ln o;generalize bZ:yM (rs.map (·.2)) s.toNat t.toNat=acc at q hm ht nd ln o;refine !⟨mp,!⟨hm,λj=> ?_⟩⟩;have I:(view 1 acc).length=acc.length:=by unfold view;rw [w9]
  have sf:zw H (upd b mp (.frz j (.dK (view 1 acc)))):=G.put L;have n:upd b mp (.frz j (.dK (view 1 acc))) mp=some (.frz j (.dK (view 1 acc))):=zj;have d:upd b mp (.frz j (.dK (view 1 acc))) tp=some (.dK (view 2 acc)):=(zl R.symm).trans ht;generalize upd b mp (.frz j (.dK (view 1 acc)))=H4 at sf n d ⊢;refine z8g (λi ys H'=>zw H4 H'/\∃qs:List (Addr×List Int),ys=refs qs/\qs.length=i/\(∀r∈qs,H' r.1=some (.lst (r.2.map V.int)))/\qs.map (·.2)=acc.take i) ⟨zw.refl _,[],rfl,rfl,λ_ z=>(by cases z),rfl⟩ ?_ ?_ ?_
  ·rintro i ys H' hi ⟨e,qs,rfl,hq,_,_⟩;exact⟨e _ _ n,zE (by rw [w9];lia)⟩
  ·rintro i p ys H' hi ⟨e,qs,rfl,hq,C,O⟩;have J:i < acc.length:=by
    have:=(we.mp hi).1
    lia
   have hp:p=((.inl (acc[i].getD 0 0):Key),V.int (acc[i].getD 1 0)):=by
    unfold view at hi;rw [wF,wa J]at hi;exact(Option.some.inj hi).symm
   subst hp;have v1:∀c,jV (view c acc) (.inl (acc[i].getD 0 0))=some (V.int (acc[i].getD c 0)):=λc=>by
    rw [z2K,z5h nd (wu J)]
    rfl
   have g1:z3G H' mp (.int (acc[i].getD 0 0)) (some (V.int (acc[i].getD 1 0))):= .inl ⟨view 1 acc,.inl (acc[i].getD 0 0),.inr ⟨j,e _ _ n⟩,rfl,(v1 1).symm⟩;have g2:z3G H' tp (.int (acc[i].getD 0 0)) (some (V.int (acc[i].getD 2 0))):= .inl ⟨view 2 acc,.inl (acc[i].getD 0 0),.inl (e _ _ d),rfl,(v1 2).symm⟩;refine !(!(!⟨mp,!⟨g1,!(!⟨tp,!⟨g2,jb (by show 3<=1000000;decide),λl hl=> ?_⟩⟩)⟩⟩));have e3:=three (o _ (wu J));have y:=zB hl (.lst [V.int (acc[i].getD 0 0),V.int (acc[i].getD 1 0),V.int (acc[i].getD 2 0)]);refine⟨e.trans y,qs ++ [(l,acc[i])],by simp [refs],by rw [wg,hq];rfl,λr m=> ?_,?_⟩
   ·rcases wB.mp m with m | m
    ·exact y _ _ (C r m)
    ·rw [wx.mp m]
     show upd H' l _ l=some (.lst (acc[i].map V.int))
     rw [zj,e3]
     rfl
   ·rw [wD,O,wQ,wa J]
    rfl
  ·rintro ys H' ⟨e,qs,rfl,hq,C,O⟩ p hp;have y:=zB hp (.lst (refs qs));refine q p qs _ ((sf.trans e).trans y) ⟨zj,λr m=>⟨zq (C r m) hp,y _ _ (C r m)⟩⟩ ?_;rw [O,I,qc]
def zb3(s:Nat)(rows L:List (List Int)):Prop:=∃is:List Nat,is.Perm (List.range rows.length)/\L=is.map (λi=>rows.getD i [])/\
 is.Pairwise λi j=>(rows.getD i []).getD s 0 < (rows.getD j []).getD s 0\/((rows.getD i []).getD s 0=(rows.getD j []).getD s 0/\i < j)
noncomputable def z4f:Pos:=match jO z0H with
 | [.Return (some (.Call _ _ [⟨_,.Lambda _ _ _ p,_⟩] _)) _]=>p
 | _=>⟨0,0,0,0⟩
noncomputable abbrev zaM:Str:=Str.ofString "in_order" ++ ".<locals>." ++ "<lambda>"
inductive spOrder (K:W.Frag) (Tb:Addr) (vs:List V) (H:Hp) (Q:VK) (E:XK):Prop
 | mk:∀a rs s,vs= [.ref a,.int s]->RowsAt H a rs->0<=s->(∀r∈rs,s.toNat < r.2.length/\r.2.length<=100)->rs.length<=63->jJ H Tb z4f zaM->(∀(p:Addr) (qs:List (Addr×List Int)) (H':Hp),Kp Tb H H'->jJ H' Tb z4f zaM->RowsAt H' p qs->zb3 s.toNat (rs.map (·.2)) (qs.map (·.2))->Q (.ref p) H')->spOrder K Tb vs H Q E
theorem z7w:FnScope ["rows","spot"] ["rows","spot"] (zi z0H):=by walk_at "s"
theorem z7H{c:Addr}(F:Fun K "in_order" "in_order" z0H f fd)(T:Txt K mg)(hc:fd.code= .ref c)(C:PySem.W.CodeHd base c Tb)(B:base.BuiltinsAt mg Tb):FnOk P w K mg base CX0 3 f fd ["rows","spot"] (spOrder K Tb):=by
 refine F.okC z7w (λvs H Q E h=> ?_) (λA outer s H vs Q E hr h=> ?_)
 ·obtain⟨a,rs,s,rfl,_⟩:=h
  rfl
 obtain⟨a,rs,s,rfl,ha,J,L,S,u,q⟩:=h;refine⟨_,(zf (zr (z8m (T:=Tb) (c:=c) rfl hr rfl T.sorted (pv 0) hc C B (CompSc.of (x:="row") (sx:=zi z0H) (NX:= ["rows","spot"]) (fr:= ["spot"]) (ix:= [1]) rfl rfl (by decide +kernel)) (λ_ _ _ _ _=>(yw (yz (K:=K) rfl) (pv 0) (pv 1) (λ_ _=>rfl)))))),?_⟩;have G:(refs rs).length=rs.length:=w9 _;have t:∀r∈rs,r.1≠Tb:=λr m=>u.ne (ha.2 r m).2 λps z=>by cases z
 refine !⟨a,refs rs,rs.map (λr=>r.2.getD s.toNat 0),rfl,.inl ha.1,by lia,by rw [w9,w9],u,λH2 e i v n=> ?_,λc' H2 D is e I y pm M=> ?_⟩
 ·have b:i < rs.length:=by
   have:=(we.mp n).1
   rwa [G]at this
  rw [jZ b]at n;cases n;have d:=e _ _ (t _ (wu b)) (ha.2 _ (wu b)).2;refine !(!(zu d (z6U J (L _ (wu b)).1) ⟨?_,rfl⟩));rw [wb (l:=rs.map _),wF,wa b]
  rfl
 ·rw [G]at pm;have mem:∀i∈is,i < rs.length:=λi hi=>Qb.mp (pm.mem_iff.mp hi)
  have o:=zB y (.lst (is.map λi=>(refs rs).getD i .non));have R:(is.map λi=>(refs rs).getD i .non)=refs (is.map λi=>rs.getD i (0,[])):=by
   unfold refs;rw [Qe];refine Qq λi hi=> ?_
   have b:=mem i hi
   show _=V.ref (rs.getD i (0,[])).1
   rw [wb,wF,wa b,wb,wa b]
   rfl
  have rows:RowsAt (upd H2 D (.lst (is.map λi=>(refs rs).getD i .non))) D (is.map λi=>rs.getD i (0,[])):=by
   refine⟨by rw [zj,R],λr m=> ?_⟩;obtain⟨i,hi,rfl⟩:=qe.mp m;have b:=mem i hi;have N:rs.getD i (0,[])=rs[i]:=by rw [wb,wa b];rfl
   rw [N];have d:=e _ _ (t _ (wu b)) (ha.2 _ (wu b)).2;exact⟨zq d y,o _ _ d⟩
  refine q D _ _ (e.trans o.kp) (jJ.same (.inr ⟨c',I⟩) o) rows ⟨is,by rw [w9];exact pm,?_,?_⟩
  ·rw [Qe];refine Qq λi hi=> ?_
   have b:=mem i hi
   show(rs.getD i (0,[])).2=_
   rw [z2L b,wb,wa b]
   rfl
  ·refine Qh.mpr λi j hi p O=> ?_
   have h0:=Qh.mp M i j hi p O;have key:∀m,m < rs.length->(rs.map (λr=>r.2.getD s.toNat 0)).getD m 0=((rs.map (·.2)).getD m []).getD s.toNat 0:=λm hm=>by
    rw [z2L hm,wb,wF,wa hm]
    rfl
   unfold Rk at h0;dsimp only at h0;rw [key _ (mem _ (wu hi)),key _ (mem _ (wu p))]at h0;exact h0
theorem zbV{n:Nat}(h:n<=9000000):n<=sizeLine:=by
 have:sizeLine=16777216:=Qi
 lia
theorem z2N{n:Nat}(h:n<=9000000):n < sizeLine:=by
 have:sizeLine=16777216:=Qi
 lia
noncomputable def kids:Qn->List Qn
 | .table _=> []
 | .pick _ q | .cols _ q | .first _ q | .group _ _ _ _ q | .sort _ q=> [q]
 | .pair q r | .join _ _ q r | .both q r=> [q,r]
noncomputable def post:Qn->List Qn
 | .table n=> [.table n]
 | .pick c q=>post q ++ [.pick c q]
 | .cols ns q=>post q ++ [.cols ns q]
 | .pair q r=>post q ++ post r ++ [.pair q r]
 | .join a b q r=>post q ++ post r ++ [.join a b q r]
 | .both q r=>post q ++ post r ++ [.both q r]
 | .first n q=>post q ++ [.first n q]
 | .group a b n s q=>post q ++ [.group a b n s q]
 | .sort a q=>post q ++ [.sort a q]
theorem z1b(q:Qn):post q=(kids q).flatMap post ++ [q]:=by cases q <;> simp [post,kids]
theorem zak(q:Qn):q∈post q:=by rw [z1b];exact wA _ (wx.mpr rfl)
theorem z7b{P:Qn->Prop}(hp:∀q,P q->∀k∈kids q,P k)(q:Qn)(h:P q):∀r∈post q,P r:=by
 induction q with
 | table n=>intro r m;rw [wx.mp m];exact h
 | pair q s i j | join _ _ q s i j | both q s i j=>
  intro r m;rcases wB.mp m with m | m
  ·exact(wB.mp m).elim (i (hp _ h _ (.head _)) r) (j (hp _ h _ (.tail _ (.head _))) r)
  ·rw [wx.mp m];exact h
 | pick _ q i | cols _ q i | first _ q i | group _ _ _ _ q i | sort _ q i=>
  intro r m;rcases wB.mp m with m | m
  ·exact i (hp _ h _ (.head _)) r m
  ·rw [wx.mp m];exact h
theorem zcj(q:Qn):1<=(post q).length:=by rw [z1b,wg];simp
def yr(H:Hp):List Qn->List V->Prop
 | [],vs=>vs= []
 | q :: qs,vs=>∃v ws,vs=v :: ws/\QAt H q v/\yr H qs ws
theorem yr.same(e:zw H H'):∀{qs:List Qn} {vs:List V},yr H qs vs->yr H' qs vs
 | [],_,h=>h
 | _ :: _,_,⟨v,ws,a,h1,h2⟩=>⟨v,ws,a,h1.same e,h2.same e⟩
def yr.mono(t:∀b xs,H b=some (.tup xs)->H' b=some (.tup xs)):∀{qs:List Qn} {vs:List V},yr H qs vs->yr H' qs vs
 | [],_,h=>h
 | _ :: _,_,⟨v,ws,a,h1,h2⟩=>⟨v,ws,a,h1.mono t,h2.mono t⟩
theorem yr.len:∀{qs:List Qn} {vs:List V},yr H qs vs->vs.length=qs.length
 | [],_,h=>by rw [show _= []from h];rfl
 | _ :: qs,_,⟨v,ws,a,h1,h2⟩=>by rw [a,wN,wN,h2.len]
theorem yr.app:∀{qs rs:List Qn} {vs ws:List V},yr H qs vs->yr H rs ws->yr H (qs ++ rs) (vs ++ ws)
 | [],_,_,_,h,g=>by rw [show _= []from h];exact g
 | _ :: _,_,_,_,⟨v,us,a,h1,h2⟩,g=>⟨v,us ++ _,by rw [a];rfl,h1,h2.app g⟩
theorem yr.rev:∀{qs:List Qn} {vs:List V},yr H qs vs->yr H qs.reverse vs.reverse
 | [],_,h=>by rw [show _= []from h];rfl
 | q :: qs,_,⟨v,us,a,h1,h2⟩=>by
  rw [a,QQ,QQ];exact h2.rev.app ⟨v,[],rfl,h1,rfl⟩
theorem yr.at:∀{qs:List Qn} {vs:List V} {i:Nat} {q:Qn},yr H qs vs->qs[i]? =some q->∃v,vs[i]? =some v/\QAt H q v
 | q :: qs,_,0,_,⟨v,us,a,h1,h2⟩,e=>by cases e;exact⟨v,by rw [a];rfl,h1⟩
 | q :: qs,_,i + 1,_,⟨v,us,a,h1,h2⟩,e=>by
  obtain⟨u,b,z⟩:=h2.at (i:=i) (by simpa using e);exact⟨u,by rw [a];simpa using b,z⟩
theorem yr.at':∀{qs:List Qn} {vs:List V} {i:Nat} {v:V},yr H qs vs->vs[i]? =some v->∃q,qs[i]? =some q/\QAt H q v
 | [],_,i,v,h,e=>by rw [show _= []from h]at e;cases e
 | q :: qs,_,0,_,⟨v,us,a,h1,h2⟩,e=>by rw [a]at e;cases e;exact⟨q,rfl,h1⟩
 | q :: qs,_,i + 1,_,⟨v,us,a,h1,h2⟩,e=>by
  rw [a]at e;obtain⟨u,b,z⟩:=h2.at' (i:=i) (by simpa using e);exact⟨u,by simpa using b,z⟩
inductive spWithin (K:W.Frag) (vs:List V) (H:Hp) (Q:VK) (E:XK):Prop
 | mk:∀v q,vs= [v]->QAt H q v->(∀(l:Addr) (kv:List V) (H':Hp),zw H H'->H l=none->H' l=some (.lst kv)->yr H' (kids q) kv->Q (.ref l) H')->spWithin K vs H Q E
noncomputable def zf7:List V:= [.str "pair",.str "join",.str "both"]
theorem zcb{v:V}(h:QAt H q v):(∃n p,q= .table n/\v= .ref p/\H p=some (.tup [.str "table",.str n]))\/
  (∃r p w xs y,kids q= [r]/\v= .ref p/\H p=some (.tup (.str w :: (xs ++ [y])))/\QAt H r y/\inV (.str w) zf7=false/\w≠"table")\/
  (∃r s p w xs x y,kids q= [r,s]/\v= .ref p/\H p=some (.tup (.str w :: (xs ++ [x,y])))/\QAt H r x/\QAt H s y/\inV (.str w) zf7=true/\w≠"table"):=by
 cases q with
 | table n=>obtain⟨p,e,h⟩:=h;exact .inl ⟨n,p,rfl,e,h⟩
 | pick c r=>obtain⟨p,x,y,e,h,_,h2⟩:=h;exact .inr (.inl ⟨r,p,"pick",[x],y,rfl,e,h,h2,by decide +kernel,by decide +kernel⟩)
 | cols ns r=>obtain⟨p,x,y,e,h,_,h2⟩:=h;exact .inr (.inl ⟨r,p,"cols",[.ref x],y,rfl,e,h,h2,by decide +kernel,by decide +kernel⟩)
 | pair r s=>obtain⟨p,x,y,e,h,h1,h2⟩:=h;exact .inr (.inr ⟨r,s,p,"pair",[],x,y,rfl,e,h,h1,h2,by decide +kernel,by decide +kernel⟩)
 | join a b r s=>obtain⟨p,x,y,e,h,h1,h2⟩:=h;exact .inr (.inr ⟨r,s,p,"join",[.str a,.str b],x,y,rfl,e,h,h1,h2,by decide +kernel,by decide +kernel⟩)
 | both r s=>obtain⟨p,x,y,e,h,h1,h2⟩:=h;exact .inr (.inr ⟨r,s,p,"both",[],x,y,rfl,e,h,h1,h2,by decide +kernel,by decide +kernel⟩)
 | first n r=>obtain⟨p,y,e,h,h2⟩:=h;exact .inr (.inl ⟨r,p,"first",[.int n],y,rfl,e,h,h2,by decide +kernel,by decide +kernel⟩)
 | group a b n s r=>obtain⟨p,y,e,h,h2⟩:=h;exact .inr (.inl ⟨r,p,"group",[.str a,.str b,.str n,.str s],y,rfl,e,h,h2,by decide +kernel,by decide +kernel⟩)
 | sort a r=>obtain⟨p,y,e,h,h2⟩:=h;exact .inr (.inl ⟨r,p,"sort",[.str a],y,rfl,e,h,h2,by decide +kernel,by decide +kernel⟩)
def zaP(v:V)(xs:List V)(y:V):atI (v :: (xs ++ [y])) (-1)=some y:=zbd (v :: xs) y
theorem zdQ(v:V)(xs:List V)(x y:V):atI (v :: (xs ++ [x,y])) (-2)=some x:=by
 have e:v :: (xs ++ [x,y])=(v :: xs) ++ [x,y]:=rfl;rw [e];generalize v :: xs=l;unfold atI ixN;rw [wM (by decide),wY (by rw [wg];simp;lia)];have h1:((((l ++ [x,y]).length:Nat):Int) + (-2)).toNat=l.length:=by rw [wg];simp;lia
 simp only [Option.bind_some]
 first | rw [h1] | (rw [show((-2:Int) + (((l ++ [x,y]).length:Nat):Int)).toNat=l.length by rw [wg];simp;lia])
 simp
theorem z2r:FnScope ["question"] ["question"] (zi kr):=by walk_at "s"
theorem z2w(F:Fun K "straight_within" "straight_within" kr f fd)(T:Txt K mg)(R:TxtP K mg):FnOk P w K mg base CX0 1 f fd ["question"] (spWithin K):=by
 refine F.okB z2r (λvs H Q E h=> ?_) (λvs H Q E h=> ?_)
 ·obtain⟨v,q,rfl,_⟩:=h
  rfl
 obtain⟨v,q,rfl,hq,fin⟩:=h;obtain⟨b,d,c⟩:=R.two;intro ac A outer e hr;refine⟨_,(zc (zD (cmT zM (ixT v0 za) zo)
   (zf (zr (zF ze)))
   zv)
  (zc (zD (kZ kK (ixT v0 za) (z9j (v:= .ref b) rfl d rfl) (by with_unfolding_all rfl))
   (zf (zr (zF (zm (ixT v0 (z5M z38 za)) (zm (ixT v0 (z5M z38 za)) ze)))))
   zv)
  (zf (zr (zF (zm (ixT v0 (z5M z38 za)) ze)))))),?_⟩
 generalize hK0:K=K1
 revert K1
 refine jj (by walk_at "cl") ?_;have l0:∀n:Nat,n<=10->n<=sizeLine:=λn h=>jb (by lia)
 rcases zcb hq with⟨n,p,rfl,rfl,hp⟩ | ⟨r,p,w,xs,y,hk,rfl,hp,hy,b7,hw⟩ | ⟨r,s,p,w,xs,x,y,hk,rfl,hp,hx,hy,b7,hw⟩
 ·refine !(zh hp zH ⟨rfl,!?_⟩);refine ifT (by rw [zY];decide +kernel) ?_;refine⟨l0 0 (by decide),λl hl=> ?_⟩;refine zg (upd _ l _) rfl hl λH1 a x1=> ?_
  exact fin l _ H1 a hl x1 rfl
 ·refine !(zh hp zH ⟨rfl,!?_⟩);refine ifF (by rw [zY];exact wH hw) ?_;refine !(zh hp zH ⟨b,!⟨.inr (c H),rfl,rfl,!?_⟩⟩);refine ifF b7 ?_;refine !(!(zh hp (zaP _ _ _) ⟨l0 1 (by decide),λl hl=> ?_⟩));refine zg (upd _ l _) rfl hl λH1 a x1=> ?_
  exact fin l _ H1 a hl x1 (by rw [hk];exact⟨y,[],rfl,hy.same a,rfl⟩)
 ·refine !(zh hp zH ⟨rfl,!?_⟩);refine ifF (by rw [zY];exact wH hw) ?_;refine !(zh hp zH ⟨b,!⟨.inr (c H),rfl,rfl,!?_⟩⟩);refine ifT b7 ?_;refine !(!(zh hp (zdQ _ _ _ _) (!(!(zh hp (by have:=zaP (.str w) (xs ++ [x]) y;rwa [w0f]at this) ⟨l0 2 (by decide),λl hl=> ?_⟩)))));refine zg (upd _ l _) rfl hl λH1 a x1=> ?_
  exact fin l _ H1 a hl x1 (by rw [hk];exact⟨x,[y],rfl,hx.same a,y,[],rfl,hy.same a,rfl⟩)
theorem z6f{l:Addr}{o:HO}(h:H l=some (.lst xs)):∀b ys,H b=some (.tup ys)->upd H l o b=some (.tup ys):=λb ys e=>by
 rw [zl (z3E e h (by intro z;cases z))];exact e
noncomputable abbrev pre(r:Qn):List Qn:=(post r).reverse
theorem zbZ(r:Qn):pre r=r :: (kids r).reverse.flatMap pre:=by
 unfold pre;rw [z1b,List.reverse_append,List.reverse_flatMap]
 rfl
noncomputable def wtL(ws:List Qn):Nat:=(ws.map λr=>(post r).length).sum
theorem z94(a b:List Qn):wtL (a ++ b)=wtL a + wtL b:=by unfold wtL;rw [wD,List.sum_append]
theorem z6z:∀ws:List Qn,ws.length<=wtL ws
 | []=>ww _
 | q :: ws=>by
  have:=z6z ws;have:=zcj q
  show ws.length + 1<=(post q).length + wtL ws
  lia
theorem z9w:∀ws:List Qn,(ws.reverse.flatMap pre).length=wtL ws
 | []=>rfl
 | q :: ws=>by
  rw [QQ,w0P,wg,z9w ws]
  show wtL ws + (pre q ++ []).length=(post q).length + wtL ws
  rw [Ql,w0k,Nat.add_comm]
theorem zbU(r:Qn):(post r).length=wtL (kids r) + 1:=by
 rw [z1b,wg,List.length_flatMap]
 rfl
theorem yr.snoc:∀{qs:List Qn} {vs:List V},yr H qs vs->vs≠ []->∃gs g ws v,qs=gs ++ [g]/\vs=ws ++ [v]/\yr H gs ws/\QAt H g v
 | [],_,h,n=>absurd h n
 | [q],_,⟨v,us,a,h1,h2⟩,_=>⟨[],q,[],v,rfl,by rw [a,show us= []from h2];rfl,rfl,h1⟩
 | q :: r :: qs,_,⟨v,us,a,h1,h2⟩,_=>by
  obtain⟨gs,g,ws,v',e,d,b,c⟩:=h2.snoc (by intro z;have:=h2.len;rw [z]at this;cases this);exact⟨q :: gs,g,v :: ws,v',by rw [e];rfl,by rw [a,d];rfl,⟨v,ws,rfl,h1,b⟩,c⟩
inductive spInner (K:W.Frag) (vs:List V) (H:Hp) (Q:VK) (E:XK):Prop
 | mk:∀v q,vs= [v]->QAt H q v->(post q).length<=8000000->(∀(l:Addr) (kv:List V) (H':Hp),zw H H'->H l=none->H' l=some (.lst kv)->yr H' (post q) kv->Q (.ref l) H')->spInner K vs H Q E
theorem kg:FnScope ["question","places","waiting","place"] ["question"] (zi z0Y):=by walk_at "s"
theorem z49(F:Fun K "inner_first" "inner_first" z0Y f fd)(T:Txt K mg)(a:Kn P w K mg base 1 "straight_within" ["question"] (spWithin K)):FnOk P w K mg base CX0 2 f fd ["question"] (spInner K):=by
 refine F.okB kg (λvs H Q E h=> ?_) (λvs H Q E h=> ?_)
 ·obtain⟨v,q,rfl,_⟩:=h
  rfl
 obtain⟨v,q,rfl,hq,hsz,fin⟩:=h;intro ac A outer sh hr;refine⟨_,(zc (seT 1 kg (zF ze))
  (zc (seT 2 kg (zF (zb v0 ze)))
  (zc (z7h (z1H v2 (λ_=>rfl))
   (zc (seT 3 kg (z4B wU w0v w0w z4e v2))
   (zc (jd (apP v1 (zb v3 ze)))
   (zf (jd (ky wU PySem.F.slot_list_extend PySem.F.type_list_extend z5x v2 (zO (zQ a hr.m (zb v3 ze)) ze)))))))
  (zf (zr (z8b rfl rfl T.list rfl T.reversed v1)))))),?_⟩
 generalize hK0:K=K1
 revert K1
 refine jj (by walk_at "cl") ?_;refine⟨(zA rfl),λb iW=> ?_⟩;refine zg (upd _ b _) rfl iW λH1 n1 x1=> ?_
 refine !⟨(zA rfl),λc y=> ?_⟩;have G:b≠c:=zq x1 y;have R:H c=none:=n1.free y;refine zg (upd _ c _) rfl y λH2 N x2=> ?_
 have s2:=n1.trans N;refine z4D ?_;dsimp only;refine z64 ?_;refine z0P (λm σ H'=>∃(ps ws:List Qn) (pv r:List V) (o3:Option V),m=wtL ws/\σ= [some v,some (.ref b),some (.ref c),o3]/\zw H H'/\H' b=some (.lst pv)/\H' c=some (.lst r)/\yr H' ps pv/\yr H' ws r/\ps ++ ws.reverse.flatMap pre=pre q) (wtL [q])
  ⟨[],[q],[],[v],none,rfl,rfl,s2,N _ _ x1,x2,rfl,⟨v,[],rfl,hq.same s2,rfl⟩,by simp⟩ ?_
 rintro m σ u ⟨ps,ws,pv,r,o3,rfl,rfl,C,Z,p,qp,X,n⟩;have hlen:ps.length + wtL ws=(post q).length:=by
  have:=Q6 List.length n;rw [wg,z9w,w0k]at this;exact this
 refine !⟨_,.inl ⟨_,SqL.of p,rfl⟩,?_⟩;by_cases aq:r= []
 ·subst aq;refine ifF (by rfl) ?_;have j:ws= []:=QL.mp X.len.symm;subst j;have ep:ps=pre q:=by simpa using n
  refine !⟨b,!⟨SqL.of Z,λl hl=> ?_⟩⟩;refine zg (upd _ l _) rfl hl λe n4 x4=> ?_
  refine fin l _ e (C.trans n4) (C.free hl) x4 ?_;have:=(qp.same n4).rev;rw [ep,List.reverse_reverse]at this;exact this
 ·obtain⟨gs,g,us,d,rfl,rfl,qg,hg⟩:=X.snoc aq;refine ifT (by simp) ?_;refine⟨_,λσ' H' z=>z,?_⟩;refine !⟨.inl ⟨rfl,_,SqL.of p⟩,c,_,d,rfl,rfl,p,z2T _ _,?_⟩;rw [w0B];have t:=z6f (o:= .lst us) p;have s4:zw H (upd u c (.lst us)):=C.put R;have x:upd u c (.lst us) b=some (.lst pv):=(zl G).trans Z;have ug:upd u c (.lst us) c=some (.lst us):=zj;have I:=qp.mono t;have B:=qg.mono t;have D:=hg.mono t;generalize upd u c (.lst us)=e at t s4 x ug I B D ⊢;have j:wtL (gs ++ [g])=wtL gs + (post g).length:=by rw [z94];rfl
  rw [j]at hlen;have lp:=I.len;have lg:=B.len;have lw:=z6z gs;have lk:=z6z (kids g);have Ac:=zbU g;refine !⟨.inl ⟨rfl,_,SqL.of x⟩,!⟨b,ex2 rfl rfl ⟨x,z2N (by lia),?_⟩⟩⟩;have s:=z6f (o:= .lst (pv ++ [d])) x;have s5:zw H (upd e b (.lst (pv ++ [d]))):=s4.put iW;have M:upd e b (.lst (pv ++ [d])) b=some (.lst (pv ++ [d])):=zj;have J:upd e b (.lst (pv ++ [d])) c=some (.lst us):=(zl G.symm).trans ug;have Y:yr (upd e b (.lst (pv ++ [d]))) (ps ++ [g]) (pv ++ [d]):=(I.mono s).app ⟨d,[],rfl,D.mono s,rfl⟩;have O:=B.mono s;have uk:=D.mono s;generalize upd e b (.lst (pv ++ [d]))=H5 at s5 M J Y O uk ⊢;refine !⟨.inl ⟨rfl,_,SqL.of J⟩,!⟨_,g,rfl,uk,λl kv H6 i fl x6 S=> ?_⟩⟩;have L:=i _ _ J;have um:=S.len;refine⟨c,l,ex2 rfl rfl ⟨L,x6,zbV (by lia),?_⟩⟩;have U:=z6f (o:= .lst (us ++ kv)) L;refine⟨wtL (gs ++ kids g),by rw [j,z94];lia,ps ++ [g],gs ++ kids g,pv ++ [d],us ++ kv,!⟨rfl,(s5.trans i).put R,by rw [zl G];exact i _ _ M,zj,(Y.same i).mono U,((O.same i).app S).mono U,?_⟩⟩;rw [List.reverse_append]at n;rw [List.reverse_append,w0P,<-n]
  show ps ++ [g] ++ _=ps ++ ([g] ++ gs.reverse).flatMap pre
  rw [w0P,QS,zbZ g];simp
def Nt(H H':Hp):Prop:=∀b o,H b=some o->(∀ps,o≠ .tbl ps)->H' b=some o
def Nt.refl(H:Hp):Nt H H:=λ_ _ e _=>e
theorem Nt.trans(a:Nt H H1)(b:Nt H1 H2):Nt H H2:=λx o e n=>b x o (a x o e n) n
def Nt.of(h:zw H H'):Nt H H':=λb o e _=>h b o e
theorem Nt.lst{H H':Hp}{b:Addr}{xs:List V}(h:Nt H H')(e:H b=some (.lst xs)):H' b=some (.lst xs):=h b _ e λ_ z=>by cases z
theorem Nt.tup{H H':Hp}{b:Addr}{xs:List V}(h:Nt H H')(e:H b=some (.tup xs)):H' b=some (.tup xs):=h b _ e λ_ z=>by cases z
theorem z1j{a b:HO}:upd (upd H d a) d b=upd H d b:=by
 funext x
 by_cases e:x=d
 ·subst e;rw [zj,zj]
 ·rw [zl e,zl e,zl e]
theorem z7p{c:Addr}{a b:HO}(n:c≠d):upd (upd H d a) c b=upd (upd H c b) d a:=by
 funext x
 by_cases e:x=d
 ·subst e;rw [zl n.symm,zj,zj]
 ·rw [zl (H:=upd H c b) e];by_cases e2:x=c
  ·subst e2;rw [zj,zj]
  ·rw [zl e2,zl e2,zl e]
theorem zcp{o:HO}(h:H d=some o):upd H d o=H:=by
 funext x
 by_cases e:x=d
 ·subst e;rw [zj,h]
 ·rw [zl e]
theorem z6R(h:zw H H2)(hd:H d=none):zw H (hid H2 d):=λb o e=>by
 rw [ju (λz=>by rw [z,hd]at e;cases e)];exact h b o e
theorem z9q{o:HO}(h:H d=some o):upd (hid H d) d o=H:=by
 funext x
 by_cases e:x=d
 ·subst e;rw [zj,h]
 ·rw [zl e,ju e]
def z06(Res:Qn->V->Hp->Prop)(H:Hp):List Qn->List V->Prop
 | [],vs=>vs= []
 | q :: qs,vs=>∃v ws,vs=v :: ws/\Res q v H/\z06 Res H qs ws
section
variable{Res:Qn->V->Hp->Prop}
theorem z06.imp(h:∀r u,Res r u H->Res r u H'):∀{qs:List Qn} {vs:List V},z06 Res H qs vs->z06 Res H' qs vs
 | [],_,z=>z
 | _ :: _,_,⟨v,ws,a,h1,h2⟩=>⟨v,ws,a,h _ _ h1,h2.imp h⟩
theorem z06.len:∀{qs:List Qn} {vs:List V},z06 Res H qs vs->vs.length=qs.length
 | [],_,h=>by rw [show _= []from h];rfl
 | _ :: qs,_,⟨v,ws,a,h1,h2⟩=>by rw [a,wN,wN,h2.len]
theorem z06.app:∀{qs rs:List Qn} {vs ws:List V},z06 Res H qs vs->z06 Res H rs ws->z06 Res H (qs ++ rs) (vs ++ ws)
 | [],_,_,_,h,g=>by rw [show _= []from h];exact g
 | _ :: _,_,_,_,⟨v,us,a,h1,h2⟩,g=>⟨v,us ++ _,by rw [a];rfl,h1,h2.app g⟩
theorem z06.cut:∀{qs rs:List Qn} {vs ws:List V},z06 Res H (qs ++ rs) (vs ++ ws)->vs.length=qs.length->z06 Res H qs vs/\z06 Res H rs ws
 | [],_,vs,_,h,e=>by
  have:vs= []:=QL.mp e;subst this;exact⟨rfl,h⟩
 | _ :: _,_,[],_,_,e=>by cases e
 | q :: qs,rs,v :: vs,ws,⟨u,us,c,h1,h2⟩,e=>by
  obtain⟨rfl,rfl⟩:=List.cons.inj c;obtain⟨a,b⟩:=h2.cut (by simpa using e);exact⟨⟨v,vs,rfl,h1,a⟩,b⟩
end
inductive Runs:List Qn->List Qn->List Qn->Prop
 | nil (S:List Qn):Runs S [] S
 | cons {S:List Qn} {r:Qn} {l S':List Qn}:Runs (S ++ [r]) l S'->Runs (S ++ kids r) (r :: l) S'
variable{l:List Qn}
theorem Runs.app{c d a b:List Qn}(h:Runs c l d)(g:Runs d a b):Runs c (l ++ a) b:=by
 induction h with
 | nil S=>exact g
 | cons h e=>exact .cons (e g)
theorem jS:∀(q:Qn) (S:List Qn),Runs S (post q) (S ++ [q])
 | .table n,S=>by have:=Runs.cons (S:=S) (r:= .table n) (.nil (S ++ [.table n]));simpa [kids,post]using this
 | .pick c q,S=>(jS q S).app (.cons (r:= .pick c q) (.nil _))
 | .cols ns q,S=>(jS q S).app (.cons (r:= .cols ns q) (.nil _))
 | .pair q r,S=>((jS q S).app (jS r _)).app (by rw [w0f];exact .cons (r:= .pair q r) (.nil _))
 | .join a b q r,S=>((jS q S).app (jS r _)).app (by rw [w0f];exact .cons (r:= .join a b q r) (.nil _))
 | .both q r,S=>((jS q S).app (jS r _)).app (by rw [w0f];exact .cons (r:= .both q r) (.nil _))
 | .first n q,S=>(jS q S).app (.cons (r:= .first n q) (.nil _))
 | .group a b n s q,S=>(jS q S).app (.cons (r:= .group a b n s q) (.nil _))
 | .sort a q,S=>(jS q S).app (.cons (r:= .sort a q) (.nil _))
theorem Runs.inv{S S':List Qn}{r:Qn}(h:Runs S (r :: l) S'):∃a,S=a ++ kids r/\Runs (a ++ [r]) l S':=by
 cases h with
 | cons h=>exact !h
def z45(P:Program)(w:World)(K:W.Frag)(mg:Str->Option Value)(base:Heap)(k:Nat):SpS:=λouter s vs H Q E=>∃(v:V) (q:Qn) (lf:Addr) (b:Sp) (Ok:Hp->Prop) (Res:Qn->V->Hp->Prop),
 vs= [v,.ref lf]/\QAt H q v/\(post q).length<=8000000/\WorkOk P w K mg base CX0 k (frs outer) H s lf b/\Ok H/\(∀H1 H2,zw H1 H2->Ok H1->Ok H2)/\(∀r u H1 H2,Nt H1 H2->Res r u H1->Res r u H2)/\
 (∀r∈post q,∀(a:V) (wl:Addr) (ws:List V) (H1:Hp) (c:VK),Nt H H1->Ok H1->QAt H1 r a->H1 wl=some (.lst ws)->z06 Res H1 (kids r) ws->(∀v' H2,Nt H1 H2->Ok H2->Res r v' H2->c v' H2)->b [a,.ref wl] H1 c E0)/\
 ∀v' H',Nt H H'->Ok H'->Res q v' H'->Q v' H'
theorem z04:FnScope ["question","work","done","place","within","inner"] ["question","work"] (zi z2k):=by walk_at "s"
theorem z7a{k:Nat}(eM:2<=k)(F:Fun K "built_up" "built_up" z2k f fd)(T:Txt K mg)(c:Kn P w K mg base 2 "inner_first" ["question"] (spInner K))(a:Kn P w K mg base 1 "straight_within" ["question"] (spWithin K)):FnOkS P w K mg base CX0 (k + 1) f fd ["question","work"] (z45 P w K mg base k):=by
 refine F.okS0 z04 (λouter s vs H Q E h=> ?_) (λac A outer s H vs Q E hr h=> ?_)
 ·obtain⟨v,q,lf,nv,Ok,Res,rfl,_⟩:=h
  rfl
 obtain⟨v,q,lf,nv,Ok,Res,rfl,hq,hsz,W,lK,okS,resN,work,fin⟩:=h;refine⟨_,(zc (seT 2 z04 (zF ze))
  (zc (foR (zR (zQ c hr.m (zb v0 ze))) (gnM 3 z04)
   (zc (seT 4 z04 (zF ze))
   (zc (foR (zR (zQ a hr.m (zb v3 ze))) (gnM 5 z04)
    (zf (jd (ky wU PySem.F.slot_list_insert PySem.F.type_list_insert zat v4 (zt za (zO (z4B wU w0v w0w z4e v2) ze))))))
   (zf (jd (apP v2 (zO (z9M (i:=1) W z31 rfl hr rfl (w02 rfl) (zb (pv 3) (zb (pv 4) ze))) ze)))))))
  (zf (zr (ixL v2 za))))),?_⟩
 generalize hK0:K=K1
 revert K1
 refine jj (by walk_at "cl") ?_;refine⟨(zA rfl),λdn lJ=> ?_⟩;refine !⟨v,q,rfl,hq.mono λb xs e=>by rw [zl (zq e lJ)];exact e,hsz,λl kv H2 n2 fl x2 y=> ?_⟩;have s1:zw H (upd H dn (.lst [])):=zB lJ _;have d2:H2 dn=some (.lst []):=n2 _ _ zj;have uq:l≠dn:=λz=>by rw [z,zj]at fl;cases fl
 have g2:zw H (hid H2 dn):=z6R (s1.trans n2) lJ;have bD:hid H2 dn l=some (.lst kv):=(ju uq).trans x2;have Ad:∀b xs,H2 b=some (.tup xs)->hid H2 dn b=some (.tup xs):=λb xs e=>by rw [ju (z3E e d2 (by intro z;cases z))];exact e
 have um:=y.len;refine⟨l,rfl,⟨_,SqL.of x2⟩,yg (xs:=kv) (λi σ H'=>∃(G:Hp) (S:List Qn) (ds:List V) (R L n:Option V),σ= [some v,some (.ref lf),some (.ref dn),R,L,n]/\H'=upd G dn (.lst ds)/\G dn=none/\Nt H G/\Ok G/\G l=some (.lst kv)/\yr G (post q) kv/\z06 Res G S ds/\Runs S ((post q).drop i) [q]/\S.length<=i)
  ⟨hid H2 dn,[],[],none,none,none,rfl,(z9q d2).symm,yU,Nt.of g2,okS _ _ g2 lK,bD,y.mono Ad,rfl,by have:=jS q [];simpa using this,ww _⟩ ?_ ?_ ?_⟩
 ·rintro i σ H' _ ⟨G,S,ds,R,L,n,rfl,rfl,J,nt,X,gl,_⟩;exact SqL.of (by rw [zl uq];exact gl)
 ·rintro i M σ H' hi ⟨G,S,ds,R,L,n,rfl,rfl,J,nt,X,gl,rg,rs,run,hS⟩;obtain⟨r,bM,fL⟩:=rg.at' hi;have lI:i < (post q).length:=(we.mp bM).1;have ad:(post q)[i]=r:=(we.mp bM).2;rw [List.drop_eq_getElem_cons lI,ad]at run;obtain⟨Z,rfl,run'⟩:=run.inv;have c7:r∈post q:=qL bM;refine⟨(zA rfl),λwl U=> ?_⟩;have t:wl≠dn:=λz=>by rw [z,zj]at U;cases U
  have gw:G wl=none:=by rw [zl t]at U;exact U
  rw [z7p t];have n1:zw G (upd G wl (.lst [])):=zB gw _;have w1:upd G wl (.lst []) wl=some (.lst []):=zj;have d1:upd G wl (.lst []) dn=none:=by rw [zl t.symm];exact J
  generalize upd G wl (.lst [])=G1 at n1 w1 d1 ⊢;have rj:QAt (upd G1 dn (.lst ds)) r M:=(fL.same n1).mono λb xs e=>by rw [zl (zq e d1)];exact e
  refine !⟨M,r,rfl,rj,λsl kk x n4 p x4 qk=> ?_⟩;have d4:x dn=some (.lst ds):=n4 _ _ zj;have Y:sl≠dn:=λz=>by rw [z,zj]at p;cases p
  have e4:upd (hid x dn) dn (.lst ds)=x:=z9q d4;have N:zw G1 (hid x dn):=z6R ((zB d1 _).trans n4) d1;have rn:hid x dn sl=some (.lst kk):=(ju Y).trans x4;have ur:hid x dn dn=none:=yU;rw [<-e4];generalize hid x dn=G4 at N rn ur ⊢;have w4:=N _ _ w1;have Ae:sl≠wl:=λz=>by
   have:=N _ _ w1;rw [z,zl t,w1]at p;cases p
  have Ac:=qk.len;have iY:=rs.len;rw [wg]at iY hS;have hlen:ds.length=Z.length + (kids r).length:=iY;refine⟨sl,rfl,⟨_,SqL.of (by rw [zl Y];exact rn)⟩,yg (xs:=kk) (λj σ H'=>∃(d ws:List V) (n:Option V),σ= [some v,some (.ref lf),some (.ref dn),some M,some (.ref wl),n]/\H'=upd (upd G4 wl (.lst ws)) dn (.lst d)/\ds=d ++ ws/\ws.length=j)
   ⟨ds,[],n,rfl,by rw [zcp w4],by simp,rfl⟩ ?_ ?_ ?_⟩
  ·rintro j σ H' _ ⟨d,ws,n,rfl,rfl,_⟩;exact SqL.of (by rw [zl Y,zl Ae];exact rn)
  ·rintro j kx σ H' hj ⟨d,ws,n,rfl,rfl,B,rq⟩;have En:j < kk.length:=(we.mp hj).1;have aq:d≠ []:=λz=>by
    have:=Q6 List.length B;rw [z,List.nil_append,hlen,rq]at this
    lia
   obtain⟨gs,g,rfl⟩:=z6a aq;have D:upd (upd G4 wl (.lst ws)) dn (.lst (gs ++ [g])) dn=some (.lst (gs ++ [g])):=zj;have Af:upd (upd G4 wl (.lst ws)) dn (.lst (gs ++ [g])) wl=some (.lst ws):=by rw [zl t,zj]
   refine !⟨.inl ⟨rfl,_,SqL.of Af⟩,!⟨.inl ⟨rfl,_,SqL.of D⟩,dn,_,g,rfl,rfl,D,z2T _ _,?_⟩⟩;rw [w0B,z1j];have rA:upd (upd G4 wl (.lst ws)) dn (.lst gs) wl=some (.lst ws):=by rw [zl t,zj]
   refine⟨wl,ws,g,rfl,rfl,rA,z2N (by lia),?_⟩;refine⟨gs,g :: ws,!⟨?_,by rw [B,w0f];rfl,by rw [wN,rq]⟩⟩;rw [z7p t,z1j]
  ·rintro σ H' ⟨d,ws,n,rfl,rfl,B,rq⟩;rw [B]at rs;have hU:d.length=Z.length:=by
    have:=Q6 List.length B;rw [wg]at this
    lia
   obtain⟨az,aN⟩:=rs.cut hU;have rB:zw G (upd G4 wl (.lst ws)):=λb o e=>by
    rw [zl (zq e gw)];exact N _ _ (n1 _ _ e)
   have I:=Nt.of rB;have d5:upd G4 wl (.lst ws) dn=none:=by rw [zl t.symm];exact ur
   have w5:upd G4 wl (.lst ws) wl=some (.lst ws):=zj;have ut:=okS _ _ rB X;generalize upd G4 wl (.lst ws)=G5 at rB I d5 w5 ut ⊢;have D:upd G5 dn (.lst d) dn=some (.lst d):=zj;refine !⟨.inl ⟨rfl,_,SqL.of D⟩,rfl,!(!⟨dn,d,D,?_⟩)⟩;rw [z44 d5];refine work r c7 M wl ws G5 _ (nt.trans I) ut (fL.mono λb xs e=>I.tup e) w5 (aN.imp λr u z=>resN r u _ _ I z) λv' H6 n6 aa C d6=> ?_
   refine⟨dn,d,v',rfl,rfl,zj,z2N (by lia),?_⟩;rw [z1j];have O:=I.trans n6;exact⟨H6,Z ++ [r],d ++ [v'],_,_,!⟨rfl,d6,nt.trans O,aa,O.lst gl,rg.mono λb xs e=>O.tup e,(az.imp λr u z=>resN r u _ _ O z).app ⟨v',[],rfl,C,rfl⟩,run',by rw [wg,wS];lia⟩⟩
 ·rintro σ H' ⟨G,S,ds,R,L,n,rfl,rfl,J,nt,X,gl,rg,rs,run,hS⟩;rw [um,List.drop_length]at run;cases run;obtain⟨v',ws,rfl,res,e⟩:=rs;have e':ws= []:=e;subst e';have sd:zw G (upd G dn (.lst [v'])):=zB J _;exact !(zu zj zH (fin v' _ (nt.trans (Nt.of sd)) (okS _ _ sd X) (resN _ _ _ _ (Nt.of sd) res)))
def wfQ(th:Str->List Str):Qn->Prop
 | .table n=>n∈tabs
 | .pick c q=>c.ok (zd th q)/\c.size<=20/\wfQ th q
 | .cols ns q=>ns.Nodup/\(∀n∈ns,n∈zd th q)/\wfQ th q
 | .pair q r=>(∀n∈zd th q,n∉zd th r)/\(zd th q ++ zd th r).length<=100/\wfQ th q/\wfQ th r
 | .join a b q r=>a∈zd th q/\b∈zd th r/\(∀n∈zd th q,n∉zd th r)/\(zd th q ++ zd th r).length<=100/\wfQ th q/\wfQ th r
 | .both q r=>zd th q=zd th r/\wfQ th q/\wfQ th r
 | .first n q=>0<=n/\wfQ th q
 | .group a b n s q=>a∈zd th q/\b∈zd th q/\ [a,n,s].Nodup/\wfQ th q
 | .sort a q=>a∈zd th q/\wfQ th q
def zbX(nd:ns.Nodup)(h:∀n∈ns,n∈hs):ns.length<=hs.length:=yZ nd h
theorem jy{th:Str->List Str}{tr:Str->List (List Int)}(T:TabOk th tr):∀{q:Qn},wfQ th q->(zd th q).Nodup/\(zd th q).length<=100
 | .table n,h=>⟨(T.hd n h).2,by
  obtain⟨m,f,d,e⟩:=T.t;have ht:(th "t").length<=100:=by rw [e,wK];lia
  have hn:n∈tabs:=h;simp only [tabs,wG,qi,QG]at hn
  show(th n).length<=100
  rcases hn with rfl | rfl | rfl | rfl
  ·exact ht
  ·rw [T.w];decide +kernel
  ·rw [T.x];decide +kernel
  ·rw [T.z];exact ht⟩
 | .pick _ q,h=>jy T (q:=q) h.2.2
 | .cols ns q,h=>⟨h.1,wP (zbX h.1 h.2.1) (jy T (q:=q) h.2.2).2⟩
 | .pair q r,h=>⟨QP.mpr ⟨(jy T (q:=q) h.2.2.1).1,(jy T (q:=r) h.2.2.2).1,λa ha b c e=>h.1 a ha (e ▸ c)⟩,h.2.1⟩
 | .join a b q r,h=>⟨QP.mpr ⟨(jy T (q:=q) h.2.2.2.2.1).1,(jy T (q:=r) h.2.2.2.2.2).1,λa ha b c e=>h.2.2.1 a ha (e ▸ c)⟩,h.2.2.2.1⟩
 | .both q r,h=>jy T (q:=q) h.2.1
 | .first _ q,h=>jy T (q:=q) h.2
 | .group a b n s q,h=>⟨h.2.2.1,by show 3<=100;decide⟩
 | .sort _ q,h=>jy T (q:=q) h.2
def zdw(th:Str->List Str)(r:Qn)(v:V)(H:Hp):Prop:=∃hp,v= .ref hp/\H hp=some (.lst ((zd th r).map V.str))
inductive spHOT (K:W.Frag) (vs:List V) (H:Hp) (Q:VK) (E:XK):Prop
 | mk:∀th tr tp n,vs= [.ref tp,.str n]->jq th tr H tp->n∈tabs->(th n).length<=1000->(∀(hp:Addr) (H':Hp),zw H H'->H' hp=some (.lst ((th n).map V.str))->Q (.ref hp) H')->spHOT K vs H Q E
theorem z2x(h:jq th tr H p):∃vs:List V,H p=some (.lst vs)/\vs.length=4/\∀i,i < 4->∃v,vs[i]? =some v/\TabAt th tr H v (tabs.getD i ""):=by
 obtain⟨v0,v1,v2,v3,h0,a,b,c,d⟩:=h;refine⟨_,h0,rfl,λi hi=> ?_⟩
 match i,hi with
 | 0,_=>exact⟨v0,rfl,a⟩
 | 1,_=>exact⟨v1,rfl,b⟩
 | 2,_=>exact⟨v2,rfl,c⟩
 | 3,_=>exact⟨v3,rfl,d⟩
theorem z91(h:n∈tabs):∃j,j < 4/\tabs.getD j ""=n:=by
 have hn:=h;simp only [tabs,wG,qi,QG]at hn;rcases hn with rfl | rfl | rfl | rfl
 ·exact⟨0,by decide,rfl⟩
 ·exact⟨1,by decide,rfl⟩
 ·exact⟨2,by decide,rfl⟩
 ·exact⟨3,by decide,rfl⟩
theorem z0N:FnScope ["tables","name","table"] ["tables","name"] (zi kQ):=by walk_at "s"
theorem z2F(F:Fun K "heads_of_table" "heads_of_table" kQ f fd)(T:Txt K mg):FnOk P w K mg base CX0 1 f fd ["tables","name"] (spHOT K):=by
 refine F.okB z0N (λvs H Q E h=> ?_) (λvs H Q E h=> ?_)
 ·obtain⟨th,tr,tp,n,rfl,_⟩:=h
  rfl
 obtain⟨th,tr,tp,n,rfl,u,hn,J,fin⟩:=h;obtain⟨vs,c,s,r⟩:=z2x u;obtain⟨j,D,q⟩:=z91 hn;intro ac A outer C hr;refine⟨_,(zc (foR (zR v0) (gnM 2 z0N)
   (zf (zD (cmT zM (ixT v2 za) v1)
    (zf (zr (jk yE rfl T.list qJ (zm (ixT v2 za) ze))))
    zv)))
  (zf z30)),?_⟩
 generalize hK0:K=K1
 revert K1
 refine jj (by walk_at "cl") ?_;refine !⟨tp,rfl,⟨_,SqL.of c⟩,yg (xs:=vs) (λi σ H'=>∃a,σ= [some (.ref tp),some (.str n),a]/\H'=H/\i<=j) ⟨none,rfl,rfl,qQ _⟩ ?_ ?_ ?_⟩
 ·rintro i σ H' _ ⟨a,rfl,rfl,_⟩;exact SqL.of c
 ·rintro i x σ H' hi ⟨a,rfl,rfl,y⟩;have B:i < 4:=by rw [<-s];exact(we.mp hi).1
  obtain⟨v,b,p,hp,rp,rs,rfl,o,d,G,I⟩:=r i B;rw [hi]at b;cases b;refine !(zh o zH (!⟨rfl,!?_⟩));by_cases e:tabs.getD i ""=n
  ·refine ifT (by rw [zY];exact wL e) ?_;rw [e]at d;refine !(zh o j8 ⟨hp,!⟨.inl (SqL.of d),λl hl=> ?_⟩⟩);refine zg (upd _ l _) rfl hl λH1 t x1=> ?_
   exact fin l H1 t x1
  ·refine ifF (by rw [zY];exact wH e) ?_;refine !⟨rfl,?_⟩;have:i≠j:=λz=>e (by rw [z];exact q)
   lia
 ·rintro σ H' ⟨a,rfl,rfl,y⟩
  lia
inductive spCheck (K:W.Frag) (vs:List V) (H:Hp) (Q:VK) (E:XK):Prop
 | mk:∀np hp (ns:List Str) (hs:List Str),vs= [.ref np,.ref hp]->(SqL K H np (ns.map V.str)\/SqT K H np (ns.map V.str))->SqL K H hp (hs.map V.str)->(∀n∈ns,n∈hs)->Q .non H->spCheck K vs H Q E
theorem z6t(h:n∈hs):inV (.str n) (hs.map V.str)=true:=by
 unfold inV;exact QF.mpr ⟨.str n,qe.mpr ⟨n,h,rfl⟩,by simp [eqV]⟩
theorem zT(hs:List Str):(hs.map V.str).all yW=true:=qN.mpr λx a=>by
 obtain⟨s,_,rfl⟩:=qe.mp a
 rfl
theorem zaS{x:V}(h:(ns.map V.str)[i]? =some x):∃n∈ns,x= .str n:=by
 obtain⟨n,hn,e⟩:=qe.mp (qL h);exact⟨n,hn,e.symm⟩
theorem z17:FnScope ["names","heads","name"] ["names","heads"] (zi z0e):=by walk_at "s"
theorem z3p(F:Fun K "check_columns" "check_columns" z0e f fd)(T:Txt K mg):FnOk P w K mg base CX0 1 f fd ["names","heads"] (spCheck K):=by
 refine F.okB z17 (λvs H Q E h=> ?_) (λvs H Q E h=> ?_)
 ·obtain⟨np,hp,ns,hs,rfl,_⟩:=h
  rfl
 obtain⟨np,hp,ns,hs,rfl,ai,b,sub,q⟩:=h;intro ac A outer c hr;refine⟨_,(zf (foR (zf4 (zR v0) (z34 v0)) (gnM 2 z17)
   (zf (zD (kZ ki v2 v1 (by with_unfolding_all rfl))
    (zf z30)
    zv)))),?_⟩
 generalize hK0:K=K1
 revert K1
 refine jj (by walk_at "cl") ?_;rcases ai with ai | ai
 ·refine .inl (!⟨np,rfl,⟨_,ai⟩,yg (xs:=ns.map V.str) (λi σ H'=>∃a,σ= [some (.ref np),some (.ref hp),a]/\H'=H) ⟨none,rfl,rfl⟩ ?_ ?_ ?_⟩)
  ·rintro i σ H' _ ⟨a,rfl,rfl⟩;exact ai
  ·rintro i x σ H' hi ⟨a,rfl,rfl⟩;obtain⟨n,hn,rfl⟩:=zaS hi;refine !(!⟨hp,!⟨.inl b,rfl,zT hs,!?_⟩⟩);exact ifF (by show(not (inV _ _))=false;rw [z6t (sub n hn)];rfl) (!rfl)
  ·rintro σ H' ⟨a,rfl,rfl⟩;exact q
 ·refine .inr (!⟨np,rfl,⟨_,ai⟩,z5Y (xs:=ns.map V.str) (λi σ H'=>∃a,σ= [some (.ref np),some (.ref hp),a]/\H'=H) ⟨none,rfl,rfl⟩ ?_ ?_ ?_⟩)
  ·rintro i σ H' _ ⟨a,rfl,rfl⟩;exact ai
  ·rintro i x σ H' hi ⟨a,rfl,rfl⟩;obtain⟨n,hn,rfl⟩:=zaS hi;refine !(!⟨hp,!⟨.inl b,rfl,zT hs,!?_⟩⟩);exact ifF (by show(not (inV _ _))=false;rw [z6t (sub n hn)];rfl) (!rfl)
  ·rintro σ H' ⟨a,rfl,rfl⟩;exact q
inductive spOnce (K:W.Frag) (vs:List V) (H:Hp) (Q:VK) (E:XK):Prop
 | mk:∀hp (hs:List Str),vs= [.ref hp]->SqL K H hp (hs.map V.str)->hs.length<=1000->hs.Nodup->(∀H',zw H H'->Q (.ref hp) H')->spOnce K vs H Q E
theorem z63:FnScope ["heads"] ["heads"] (zi z1J):=by walk_at "s"
theorem z6q(F:Fun K "each_once" "each_once" z1J f fd)(T:Txt K mg)(R:TxtP K mg):FnOk P w K mg base CX0 1 f fd ["heads"] (spOnce K):=by
 refine F.okB z63 (λvs H Q E h=> ?_) (λvs H Q E h=> ?_)
 ·obtain⟨hp,hs,rfl,_⟩:=h
  rfl
 obtain⟨hp,hs,rfl,c,hl,nd,q⟩:=h;intro ac A outer d hr;refine⟨_,(zc (zD (cmT z1I (zP (z7y (P:=P) (w:=w) rfl rfl) rfl T.len PySem.boot_len (zO (jk (zbN (P:=P) (w:=w) (K:=K) rfl rfl rfl rfl) rfl R.set PyProof.Rows.boot_set (zb v0 ze)) ze)) (leN T.len (zb v0 ze)))
   (zf z30)
   zv)
  (zf (zr v0))),?_⟩
 generalize hK0:K=K1
 revert K1
 refine jj (by walk_at "cl") ?_;refine !⟨hp,hs,rfl,c,hl,λa ha=> ?_⟩;refine zg (upd _ a _) rfl ha λH1 b x1=> ?_
 refine⟨a,!⟨x1,!⟨hp,!⟨.inl (b.seq c),rfl,!?_⟩⟩⟩⟩;refine ifF ?_ ?_
 ·rw [(z8i hs).mpr nd,w9];simp
 ·exact !(q _ b)
inductive spOne (K:W.Frag) (vs:List V) (H:Hp) (Q:VK) (E:XK):Prop
 | mk:∀th tr q r v hp,vs= [v,.ref hp]->TabOk th tr->QAt H q v->kids q= [r]->wfQ th q->H hp=some (.lst ((zd th r).map V.str))->(∀(a9:Addr) (H':Hp),zw H H'->H' a9=some (.lst ((zd th q).map V.str))->Q (.ref a9) H')->spOne K vs H Q E
theorem z1L(h:c.ok hs):∀s∈c.cols,s∈hs:=by
 have side:∀{a:Side},a.ok hs->∀s∈a.cols,s∈hs:=λ{a} h s m=>by
  cases a with
  | nm x=>rw [show s=x from wx.mp m];exact h
  | nu i=>cases m
 induction c with
 | less a b=>exact λs m=>(wB.mp m).elim (side h.1 s) (side h.2 s)
 | same a b=>exact λs m=>(wB.mp m).elim (side h.1 s) (side h.2 s)
 | no c j=>exact j h
 | an c d e f=>exact λs m=>(wB.mp m).elim (e h.1 s) (f h.2 s)
 | or c d e f=>exact λs m=>(wB.mp m).elim (e h.1 s) (f h.2 s)
def zfy{x y z u t:α}{r:List α}:atI (x :: y :: z :: u :: t :: r) 4=some t:=zW (j:=4) rfl
theorem z0O:FnScope ["question","heads","word"] ["question","heads"] (zi kJ):=by walk_at "s"
theorem z2R(F:Fun K "heads_over_one" "heads_over_one" kJ f fd)(T:Txt K mg)(d:Kn P w K mg base 1 "check_columns" ["names","heads"] (spCheck K))(j:Kn P w K mg base 1 "columns_of" ["condition"] (spCols K))(i:Kn P w K mg base 1 "each_once" ["heads"] (spOnce K)):FnOk P w K mg base CX0 2 f fd ["question","heads"] (spOne K):=by
 refine F.okB z0O (λvs H Q E h=> ?_) (λvs H Q E h=> ?_)
 ·obtain⟨th,tr,q,r,v,hp,rfl,_⟩:=h
  rfl
 obtain⟨th,tr,q,r,v,hp,rfl,TT,hq,t,wf,u,fin⟩:=h;intro ac A outer M hr;refine⟨_,(zc (seT 2 z0O (ixT v0 za))
  (zc (zD (cmT zM v2 zo)
   (zf (jd (zQ d hr.m (zO (zQ j hr.m (zm (ixT v0 za) ze)) (zb v1 ze)))))
   (zf (zD (cmT zM v2 zo)
    (zf (jd (zQ d hr.m (jI (zF (zm (ixT v0 za) ze)) (zb v1 ze)))))
    (zf (zD (cmT zM v2 zo)
     (zc (jd (zQ d hr.m (zm (ixT v0 za) (zb v1 ze))))
     (zf (zr (zQ i hr.m (zO (jk yE rfl T.list qJ (zm (ixT v0 za) ze)) ze)))))
     (zf (zD (cmT zM v2 zo)
      (zc (jd (zQ d hr.m (jI (zF (zm (ixT v0 za) (zm (ixT v0 za) ze))) (zb v1 ze))))
      (zf (zr (zQ i hr.m (jI (zF (zm (ixT v0 za) (zm (ixT v0 za) (zm (ixT v0 za) ze)))) ze)))))
      zv)))))))
  (zf (zr v1)))),?_⟩
 generalize hK0:K=K1
 revert K1
 refine jj (by walk_at "cl") ?_;have l0:∀n:Nat,n<=10->n<=sizeLine:=λn h=>jb (by lia)
 have no:∀{a b:Str},a≠b->decide (V.str a=V.str b)=false:=λ{a b} h=>by rw [zY];exact wH h
 have yes:∀a:Str,decide (V.str a=V.str a)=true:=λa=>wL rfl
 cases q with
 | table n=>cases t
 | pair a b=>cases t
 | join x y a b=>cases t
 | both a b=>cases t
 | pick c q'=>
  cases (show q'=r from(List.cons.inj t).1);obtain⟨p,x,y,rfl,h1,h2,z⟩:=hq;refine !(zh h1 zH ?_);refine !⟨rfl,!?_⟩;refine ifT (yes _) ?_;refine !(zh h1 j8 ⟨c,x,c.cols,rfl,h2,by have:=wf.2.1;lia,λs m=>m,by have:=c.cols_le;have:=wf.2.1;lia,λl ss H1 o x1 nd mem N=> ?_⟩);refine !⟨l,hp,ss,_,rfl,.inl (SqL.of x1),SqL.of (o _ _ u),λs m=>z1L wf.1 s ((mem s).mp m),?_⟩;exact !(fin hp H1 o (o _ _ u))
 | sort a q'=>
  cases (show q'=r from(List.cons.inj t).1);obtain⟨p,y,rfl,h1,z⟩:=hq;refine !(zh h1 zH ?_);refine !⟨rfl,!?_⟩;refine ifF (no (by decide +kernel)) ?_;refine !⟨rfl,!?_⟩;refine ifT (yes _) ?_;refine !(zh h1 j8 ⟨l0 1 (by decide),λl hl=> ?_⟩);refine zg (upd _ l _) rfl hl λH1 o x1=> ?_
  refine !⟨l,hp,[a],_,rfl,.inl (SqL.of x1),SqL.of (o _ _ u),λs m=>by rw [wx.mp m];exact wf.1,?_⟩;exact !(fin hp H1 o (o _ _ u))
 | cols ns q'=>
  cases (show q'=r from(List.cons.inj t).1);obtain⟨p,x,y,rfl,h1,h2,z⟩:=hq;refine !(zh h1 zH ?_);refine !⟨rfl,!?_⟩;refine ifF (no (by decide +kernel)) ?_;refine !⟨rfl,!?_⟩;refine ifF (no (by decide +kernel)) ?_;refine !⟨rfl,!?_⟩;refine ifT (yes _) ?_;refine !(zh h1 j8 (!⟨x,hp,ns,_,rfl,.inr (SqT.of h2),SqL.of u,wf.2.1,?_⟩));refine !(zh h1 j8 ⟨x,!⟨.inr (SqT.of h2),λl hl=> ?_⟩⟩);refine zg (upd _ l _) rfl hl λH1 o x1=> ?_
  have:=(jy TT wf).2;have L:ns.length<=1000:=by have:ns.length<=100:=this;lia
  exact⟨l,ns,rfl,SqL.of x1,L,wf.1,λH2 B=>fin l H2 (o.trans B) (B _ _ x1)⟩
 | group a b n s q'=>
  cases (show q'=r from(List.cons.inj t).1);obtain⟨p,y,rfl,h1,z⟩:=hq;refine !(zh h1 zH ?_);refine !⟨rfl,!?_⟩;refine ifF (no (by decide +kernel)) ?_;refine !⟨rfl,!?_⟩;refine ifF (no (by decide +kernel)) ?_;refine !⟨rfl,!?_⟩;refine ifF (no (by decide +kernel)) ?_;refine !⟨rfl,!?_⟩;refine ifT (yes _) ?_;refine !(zh h1 j8 (!(zh h1 jz ⟨l0 2 (by decide),λl hl=> ?_⟩)));refine zg (upd _ l _) rfl hl λH1 o x1=> ?_
  refine !⟨l,hp,[a,b],_,rfl,.inl (SqL.of x1),SqL.of (o _ _ u),λs m=> ?_,?_⟩
  ·rcases wG.mp m with e | m
   ·rw [e];exact wf.1
   ·rw [wx.mp m];exact wf.2.1
  ·have C:=o _ _ h1;refine !(zh C j8 (!(zh C z0Q (!(zh C zfy ⟨l0 3 (by decide),λl2 J=> ?_⟩)))));refine zg (upd _ l2 _) rfl J λH2 B D=> ?_
   exact⟨l2,[a,n,s],rfl,SqL.of D,by show 3<=1000;decide,wf.2.2.1,λI G=>fin l2 I (o.trans (B.trans G)) (G _ _ D)⟩
 | first n q'=>
  cases (show q'=r from(List.cons.inj t).1);obtain⟨p,y,rfl,h1,z⟩:=hq;refine !(zh h1 zH ?_);refine !⟨rfl,!?_⟩;refine ifF (no (by decide +kernel)) ?_;refine !⟨rfl,!?_⟩;refine ifF (no (by decide +kernel)) ?_;refine !⟨rfl,!?_⟩;refine ifF (no (by decide +kernel)) ?_;refine !⟨rfl,!?_⟩;refine ifF (no (by decide +kernel)) ?_;exact !(fin hp H (zw.refl _) u)
inductive spTwo (K:W.Frag) (vs:List V) (H:Hp) (Q:VK) (E:XK):Prop
 | mk:∀th tr q r t v hp op,vs= [v,.ref hp,.ref op]->TabOk th tr->QAt H q v->kids q= [r,t]->wfQ th q->H hp=some (.lst ((zd th r).map V.str))->H op=some (.lst ((zd th t).map V.str))->(∀(a9:Addr) (H':Hp),zw H H'->H' a9=some (.lst ((zd th q).map V.str))->Q (.ref a9) H')->spTwo K vs H Q E
theorem z2B:FnScope ["question","heads","others"] ["question","heads","others"] (zi kF):=by walk_at "s"
theorem z2Z(F:Fun K "heads_over_two" "heads_over_two" kF f fd)(T:Txt K mg)(e:Kn P w K mg base 1 "check_columns" ["names","heads"] (spCheck K))(i:Kn P w K mg base 1 "each_once" ["heads"] (spOnce K)):FnOk P w K mg base CX0 2 f fd ["question","heads","others"] (spTwo K):=by
 refine F.okB z2B (λvs H Q E h=> ?_) (λvs H Q E h=> ?_)
 ·obtain⟨th,tr,q,r,t,v,hp,op,rfl,_⟩:=h
  rfl
 obtain⟨th,tr,q,r,t,v,hp,op,rfl,TT,hq,j,wf,z,C,fin⟩:=h;intro ac A outer X hr;have R:=z3w hr;refine⟨_,(zc (zD (cmT zM (ixT v0 za) zo)
   (zc (zD (cmT (za4 (K:=K) rfl R) v1 v2)
    (zf z30)
    zv)
   (zf (zr v1)))
   zv)
  (zc (zD (cmT zM (ixT v0 za) zo)
   (zc (jd (zQ e hr.m (jI (zF (zm (ixT v0 za) ze)) (zb v1 ze))))
   (zf (jd (zQ e hr.m (jI (zF (zm (ixT v0 za) ze)) (zb v2 ze))))))
   zv)
  (zf (zr (zQ i hr.m (yo (zp kC v1 v2) ze)))))),?_⟩
 generalize hK0:K=K1
 revert K1
 refine jj (by walk_at "cl") ?_;have l0:∀n:Nat,n<=10->n<=sizeLine:=λn h=>jb (by lia)
 have no:∀{a b:Str},a≠b->decide (V.str a=V.str b)=false:=λ{a b} h=>by rw [zY];exact wH h
 have yes:∀a:Str,decide (V.str a=V.str a)=true:=λa=>wL rfl
 have o:=jy TT wf;cases q with
 | table n=>cases j
 | pick c a=>cases j
 | cols ns a=>cases j
 | first n a=>cases j
 | sort n a=>cases j
 | group a b n s q=>cases j
 | both a b=>
  obtain⟨rfl,B⟩:=List.cons.inj j;obtain⟨rfl,_⟩:=List.cons.inj B;obtain⟨p,x,y,rfl,h1,h2,L⟩:=hq;refine !(zh h1 zH ⟨rfl,!?_⟩);refine ifT (yes _) ?_;refine !(!⟨hp,op,ex2 rfl rfl ⟨SqL.of z,SqL.of C,zT _,zT _,!?_⟩⟩);refine ifF (by rw [z6I,wL wf.1];rfl) ?_;exact !(fin hp H (zw.refl _) z)
 | pair a b=>
  obtain⟨rfl,B⟩:=List.cons.inj j;obtain⟨rfl,_⟩:=List.cons.inj B;obtain⟨p,x,y,rfl,h1,h2,L⟩:=hq;refine !(zh h1 zH ⟨rfl,!?_⟩);refine ifF (no (by decide +kernel)) ?_;refine !(zh h1 zH ⟨rfl,!?_⟩);refine ifF (no (by decide +kernel)) ?_;refine !(!⟨hp,op,ex2 rfl rfl ⟨z,C,jb (by rw [w9,w9];have:=o.2;rw [show zd th (Qn.pair a b)=zd th a ++ zd th b from rfl,wg]at this;lia),λl hl=> ?_⟩⟩);refine zg (upd _ l _) rfl hl λH1 u x1=> ?_
  rw [<-wD]at x1;exact⟨l,_,rfl,SqL.of x1,by have:(zd th a ++ zd th b).length<=100:=o.2;lia,o.1,λH2 D=>fin l H2 (u.trans D) (D _ _ x1)⟩
 | join c d a b=>
  obtain⟨rfl,B⟩:=List.cons.inj j;obtain⟨rfl,_⟩:=List.cons.inj B;obtain⟨p,x,y,rfl,h1,h2,L⟩:=hq;refine !(zh h1 zH ⟨rfl,!?_⟩);refine ifF (no (by decide +kernel)) ?_;refine !(zh h1 zH ⟨rfl,!?_⟩);refine ifT (yes _) ?_;refine !(zh h1 j8 ⟨l0 1 (by decide),λl hl=> ?_⟩);refine zg (upd _ l _) rfl hl λH1 u x1=> ?_
  refine !⟨l,hp,[c],_,rfl,.inl (SqL.of x1),SqL.of (u _ _ z),λs m=>by rw [wx.mp m];exact wf.1,?_⟩;refine !(zh (u _ _ h1) jz ⟨l0 1 (by decide),λl2 N=> ?_⟩);refine zg (upd _ l2 _) rfl N λH2 D O=> ?_
  have n12:=u.trans D;refine !⟨l2,op,[d],_,rfl,.inl (SqL.of O),SqL.of (n12 _ _ C),λs m=>by rw [wx.mp m];exact wf.2.1,?_⟩;refine !(!⟨hp,op,ex2 rfl rfl ⟨n12 _ _ z,n12 _ _ C,jb (by rw [w9,w9];have:=o.2;rw [show zd th (Qn.join c d a b)=zd th a ++ zd th b from rfl,wg]at this;lia),λG I=> ?_⟩⟩);refine zg (upd _ G _) rfl I λY U J=> ?_
  rw [<-wD]at J;exact⟨G,_,rfl,SqL.of J,by have:(zd th a ++ zd th b).length<=100:=o.2;lia,o.1,λS M=>fin G S (n12.trans (U.trans M)) (M _ _ J)⟩
inductive spHeadsAt (K:W.Frag) (vs:List V) (H:Hp) (Q:VK) (E:XK):Prop
 | mk:∀th tr q v tp wl ws,vs= [.ref tp,v,.ref wl]->TabOk th tr->jq th tr H tp->QAt H q v->wfQ th q->H wl=some (.lst ws)->z06 (zdw th) H (kids q) ws->(∀(hp:Addr) (H':Hp),zw H H'->H' hp=some (.lst ((zd th q).map V.str))->Q (.ref hp) H')->spHeadsAt K vs H Q E
theorem z6S:FnScope ["tables","question","within"] ["tables","question","within"] (zi z2m):=by walk_at "s"
theorem z6W(F:Fun K "heads_at" "heads_at" z2m f fd)(T:Txt K mg)(a:Kn P w K mg base 1 "heads_of_table" ["tables","name"] (spHOT K))(b:Kn P w K mg base 2 "heads_over_one" ["question","heads"] (spOne K))(c:Kn P w K mg base 2 "heads_over_two" ["question","heads","others"] (spTwo K)):FnOk P w K mg base CX0 3 f fd ["tables","question","within"] (spHeadsAt K):=by
 refine F.okB z6S (λvs H Q E h=> ?_) (λvs H Q E h=> ?_)
 ·obtain⟨th,tr,q,v,tp,wl,ws,rfl,_⟩:=h
  rfl
 obtain⟨th,tr,q,v,tp,wl,ws,rfl,TT,o,hq,wf,d,rs,fin⟩:=h;intro ac A outer G hr;refine⟨_,(zc (zD (cmT zM (leN T.len (zb v2 ze)) za)
   (zf (zr (zQ a hr.m (zb v0 (zm (ixT v1 za) ze)))))
   zv)
  (zc (zD (cmT zM (leN T.len (zb v2 ze)) za)
   (zf (zr (zQ b hr.m (zb v1 (zm (ixL v2 za) ze)))))
   zv)
  (zf (zr (zQ c hr.m (zb v1 (zm (ixL v2 za) (zm (ixL v2 za) ze)))))))),?_⟩
 generalize hK0:K=K1
 revert K1
 refine jj (by walk_at "cl") ?_;have i:=rs.len;rcases zcb hq with⟨n,p,rfl,rfl,hp⟩ | ⟨r,p,w,xs,y,hk,rfl,hp,hy,b7,hw⟩ | ⟨r,t,p,w,xs,x,y,hk,rfl,hp,hx,hy,b7,hw⟩
 ·have l0:ws.length=0:=i;refine !⟨wl,!⟨.inl (SqL.of d),rfl,!?_⟩⟩;refine ifT (by rw [l0];simp) ?_;exact !(!(zh hp j8 ⟨th,tr,tp,n,rfl,o,wf,by have:=(jy TT wf).2;have:(th n).length<=100:=this;lia,fin⟩))
 ·rw [hk]at rs i;obtain⟨u,us,rfl,⟨e,rfl,j⟩,l⟩:=rs;have D:us= []:=l;subst D;refine !⟨wl,!⟨.inl (SqL.of d),rfl,!?_⟩⟩;refine ifF (by simp) ?_;refine !⟨wl,!⟨.inl (SqL.of d),rfl,!?_⟩⟩;refine ifT (by simp) ?_;exact !(!(zu d zH ⟨th,tr,q,r,.ref p,e,rfl,TT,hq,hk,wf,j,fin⟩))
 ·rw [hk]at rs i;obtain⟨u,us,rfl,⟨e,rfl,j⟩,I,C,rfl,⟨z,rfl,l⟩,B⟩:=rs;have s:C= []:=B;subst s;refine !⟨wl,!⟨.inl (SqL.of d),rfl,!?_⟩⟩;refine ifF (by simp) ?_;refine !⟨wl,!⟨.inl (SqL.of d),rfl,!?_⟩⟩;refine ifF (by simp) ?_;exact !(!(zu d zH (!(zu d j8 ⟨th,tr,q,r,t,.ref p,e,z,rfl,TT,hq,hk,wf,j,l,fin⟩))))
noncomputable def zc5:Pos:=match jO z1n with
 | [.Return (some (.Call _ [_,.Lambda _ _ _ p] _ _)) _]=>p
 | _=>⟨0,0,0,0⟩
noncomputable abbrev zcg:Str:=Str.ofString "heads_of" ++ ".<locals>." ++ "<lambda>"
noncomputable def zbb:Pos:=match jO ko with
 | [_,.Return (some (.Call _ [_,.Lambda _ _ _ p] _ _)) _]=>p
 | _=>⟨0,0,0,0⟩
noncomputable abbrev zbF:Str:=Str.ofString "plain_answer" ++ ".<locals>." ++ "<lambda>"
structure Ls(T1 T2 T3:Addr)(H:Hp):Prop where
 a:jJ H T1 zc5 zcg
 b:jJ H T2 zbb zbF
 c:jJ H T3 z4f zaM
 d12:T1≠T2
 d13:T1≠T3
 d23:T2≠T3
theorem z1f{a:Addr}{b:Pos}{q q':Str}(d:jJ H T lp q)(h:jJ H a b q')(n:T≠a)(k:Kp T H H'):jJ H' a b q':=by
 rcases h with h | ⟨c,h,oc,vs,t,h2,e⟩
 ·exact .inl (k _ _ n.symm h)
 ·exact .inr ⟨c,k _ _ n.symm h,oc,vs,t,k _ _ (d.ne h2 λps z=>by cases z) h2,e⟩
def z8M{q:Str}(a:jJ H T lp q)(k:Kp T H H'):Nt H H':=λb o e n=>k b o (a.ne e n) e
theorem Ls.same(h:Ls T1 T2 T3 H)(e:zw H H'):Ls T1 T2 T3 H':=⟨h.a.same e,h.b.same e,h.c.same e,h.d12,h.d13,h.d23⟩
def Ls.kp1(h:Ls T1 T2 T3 H)(k:Kp T1 H H')(z:jJ H' T1 zc5 zcg):Ls T1 T2 T3 H':=⟨z,z1f h.a h.b h.d12 k,z1f h.a h.c h.d13 k,h.d12,h.d13,h.d23⟩
def Ls.kp2(h:Ls T1 T2 T3 H)(k:Kp T2 H H')(z:jJ H' T2 zbb zbF):Ls T1 T2 T3 H':=⟨z1f h.b h.a h.d12.symm k,z,z1f h.b h.c h.d23 k,h.d12,h.d13,h.d23⟩
def Ls.kp3(h:Ls T1 T2 T3 H)(k:Kp T3 H H')(z:jJ H' T3 z4f zaM):Ls T1 T2 T3 H':=⟨z1f h.c h.a h.d13.symm k,z1f h.c h.b h.d23.symm k,z,h.d12,h.d13,h.d23⟩
def _root_.L2.WorkOk.mono{CX:CXT}{k:Nat}{fs:List Addr}{s:Shared}{lf:Addr}(W:WorkOk P w K mg base CX j fs H s lf sp)(h:j<=k):WorkOk P w K mg base CX k fs H s lf sp:=
 ⟨W.here,λA outer s' H' us vs Q E hr=>W.run A outer s' H' us vs Q E (hr.mono h)⟩
def _root_.Rw.RowsAt.nt(h:RowsAt H p rs)(k:Nt H H'):RowsAt H' p rs:=⟨k.lst h.1,λr m=>⟨(h.2 r m).1,k.lst (h.2 r m).2⟩⟩
theorem TabAt.nt{v:V}(h:TabAt th tr H v n)(k:Nt H H'):TabAt th tr H' v n:=by
 obtain⟨p,hp,rp,rs,rfl,h1,c,b,a⟩:=h;exact⟨p,hp,rp,rs,rfl,k.tup h1,k.lst c,b.nt k,a⟩
theorem jq.nt(h:jq th tr H p)(k:Nt H H'):jq th tr H' p:=by
 obtain⟨v0,v1,v2,v3,h0,a,b,c,d⟩:=h;exact⟨v0,v1,v2,v3,k.lst h0,a.nt k,b.nt k,c.nt k,d.nt k⟩
def _root_.Qs.QAt.nt{v:V}(h:QAt H q v)(k:Nt H H'):QAt H' q v:=h.mono λb xs e=>k.tup e
theorem z6B(h:wfQ th q):∀r∈kids q,wfQ th r:=by cases q <;> simp_all [kids,wfQ]
def z6C(h:wfQ th q):∀r∈post q,wfQ th r:=z7b (λ_=>z6B) _ h
inductive spHeadsOf (K:W.Frag) (T1 T2 T3:Addr) (vs:List V) (H:Hp) (Q:VK) (E:XK):Prop
 | mk:∀th tr q v tp,vs= [.ref tp,v]->TabOk th tr->jq th tr H tp->QAt H q v->wfQ th q->(post q).length<=8000000->Ls T1 T2 T3 H->(∀(hp:Addr) (H':Hp),Nt H H'->Ls T1 T2 T3 H'->H' hp=some (.lst ((zd th q).map V.str))->Q (.ref hp) H')->spHeadsOf K T1 T2 T3 vs H Q E
theorem z76:FnScope ["tables","question"] ["tables","question"] (zi z1n):=by walk_at "s"
theorem z7k{c:Addr}(F:Fun K "heads_of" "heads_of" z1n f fd)(T:Txt K mg)(hc:fd.code= .ref c)(C:PySem.W.CodeHd base c T1)(B:base.BuiltinsAt mg T1)(i:KnS P w K mg base CX0 9 "built_up" ["question","work"] (z45 P w K mg base 8))(d:Kn P w K mg base 3 "heads_at" ["tables","question","within"] (spHeadsAt K)):FnOk P w K mg base CX0 10 f fd ["tables","question"] (spHeadsOf K T1 T2 T3):=by
 refine F.okC z76 (λvs H Q E h=> ?_) (λA outer s H vs Q E hr h=> ?_)
 ·obtain⟨th,tr,q,v,tp,rfl,_⟩:=h
  rfl
 obtain⟨th,tr,q,v,tp,rfl,TT,L,hq,wf,hsz,o,fin⟩:=h;refine⟨_,(zf (zr (z2o (k:=3) (T:=T1) (c:=c) (j:=0) (a:="place") (b:="within") (y:="tables") i z31 hr rfl (pv 1) hc C B ⟨rfl,rfl,rfl,rfl,rfl,rfl,by decide +kernel,by decide +kernel,by decide +kernel⟩ (w02 rfl) rfl
  (λ_ _ _ _ _ _ _ _ hl=>z1M d hl rfl (zb (pv 2) (zb (pv 0) (zb (pv 1) ze))))))),?_⟩
 refine !⟨o.a,.ref tp,rfl,λlf c' H2 s2 t G W=> ?_⟩;have p:=z8M o.a t;have l:=o.kp1 t (.inr ⟨c',G⟩);refine⟨v,q,lf,_,Ls T1 T2 T3,zdw th,rfl,hq.nt p,hsz,W.mono (by decide),l,λH1 H2 e z=>z.same e,λr u H1 H2 n ⟨hp,e,z⟩=>⟨hp,e,n.lst z⟩,λr O x wl ws X Y U I R M rs k=> ?_,λv' H' S N ⟨hp,e,z⟩=> ?_⟩
 ·exact⟨x,.ref wl,rfl,!(!(!⟨th,tr,r,x,tp,wl,ws,rfl,TT,L.nt (p.trans U),R,z6C wf r O,M,rs,λhp Z D J=>k _ _ (Nt.of D) (I.same D) ⟨hp,rfl,J⟩⟩))⟩
 ·rw [e];exact fin hp H' (p.trans S) N z
theorem z8a(s:Nat)(rows:List (List Int))(k:Int):k∈jL s rows↔∃r∈rows,r.getD s 0=k:=by
 refine snoc_ind (P:=λrows=>k∈jL s rows↔∃r∈rows,r.getD s 0=k) (by simp [jL]) (λl a b=> ?_) rows;have e:jL s (l ++ [a])=if a.getD s 0∈jL s l then jL s l else jL s l ++ [a.getD s 0]:=by unfold jL;rw [w0M];rfl
 rw [e];have:(∃r∈l ++ [a],r.getD s 0=k)↔(∃r∈l,r.getD s 0=k)\/a.getD s 0=k:=by
  constructor
  ·rintro⟨r,hr,h⟩;rcases wB.mp hr with hr | hr
   ·exact .inl ⟨r,hr,h⟩
   ·rw [wx.mp hr]at h;exact .inr h
  ·rintro(⟨r,hr,h⟩ | h)
   ·exact⟨r,wZ _ hr,h⟩
   ·exact⟨a,wA _ (wx.mpr rfl),h⟩
 rw [this,<-b];split
 ·rename_i h;exact⟨.inl,λz=>z.elim id λz=>z ▸ h⟩
 ·rw [wB,wx,eq_comm (a:=k)]
theorem za9(s p:Nat)(rows:List (List Int)):yM rows s p=z2q s p rows:=by
 refine snoc_ind (P:=λrows=>yM rows s p=z2q s p rows) rfl (λl a c=> ?_) rows;have e:jL s (l ++ [a])=if a.getD s 0∈jL s l then jL s l else jL s l ++ [a.getD s 0]:=by unfold jL;rw [w0M];rfl
 have b:yM (l ++ [a]) s p=z1E (yM l s p) (a.getD s 0) (a.getD p 0):=by unfold yM;rw [w0M];rfl
 generalize hk:a.getD s 0=k at e b;have f1:∀k',yD s p (l ++ [a]) k'=z0G k (a.getD p 0) (yD s p l k'):=λk'=>by
  unfold yD z0G;rw [w0u];by_cases h:k'=k
  ·subst h;rw [show [a].filter (λr=>decide (r.getD s 0=k'))= [a]from qV (wL hk)];simp
  ·rw [show [a].filter (λr=>decide (r.getD s 0=k'))= []from w0Q (by rw [w0K,hk];exact λz=>h z.symm)];simp [h]
 have f2:((z2q s p l).any λm=>decide (m.getD 0 0=k))=decide (k∈jL s l):=by
  unfold z2q;rw [List.any_map,QY,QF,w0K];constructor
  ·rintro⟨x,f,h⟩;have:x=k:=by simpa [yD]using h
   exact this ▸ f
  ·exact λh=>⟨k,h,by simp [yD]⟩
 rw [b,c];unfold z1E;rw [f2];unfold z2q;rw [e,Qe];have d:(jL s l).map (z0G k (a.getD p 0) ∘ yD s p l)=(jL s l).map (yD s p (l ++ [a])):=Qq λx _=>(f1 x).symm
 rw [d];by_cases h:k∈jL s l
 ·rw [wY h,wY (wL h),Ql]
 ·rw [wM h,wM (by simpa using h),wD]
  congr 1
  show [[k,1,a.getD p 0]]= [yD s p (l ++ [a]) k]
  rw [f1];have hz:l.filter (λr=>decide (r.getD s 0=k))= []:=w0V.mpr λr hr z=>h ((z8a s l k).mpr ⟨r,hr,by simpa using z⟩)
  unfold yD z0G;rw [hz];simp
theorem zcl{a b:Str}(ha:a∈hq)(q:b∈hr)(s:∀n∈hq,n∉hr)(p:∀x∈rows,x.length=hq.length):
  joinR rows others (hq.idxOf a) (hr.idxOf b)=(pairs rows others).filter λz=>decide (z.getD ((hq ++ hr).idxOf a) 0=z.getD ((hq ++ hr).idxOf b) 0):=by
 have r:(hq ++ hr).idxOf a=hq.idxOf a:=by rw [List.idxOf_append,wY ha]
 have c:(hq ++ hr).idxOf b=hr.idxOf b + hq.length:=by rw [List.idxOf_append,wM λz=>s b z q]
 have la:hq.idxOf a < hq.length:=qz.mpr ha;unfold joinR pairs;rw [List.filter_flatMap];have e:∀(l:List (List Int)) (f g:List Int->List (List Int)),(∀x∈l,f x=g x)->l.flatMap f=l.flatMap g:=λl f g h=>by
  induction l with
  | nil=>rfl
  | cons x l d=>rw [QS,QS,h x qy,d λy o=>h y (wX _ o)]
 refine e _ _ _ λx j=> ?_
 rw [QK]
 congr 1
 refine w0g λy _=> ?_
 have i:=p x j
 show _=decide ((x ++ y).getD _ 0=(x ++ y).getD _ 0)
 rw [r,c,wb (l:=x ++ y),wb (l:=x ++ y),QV (by lia),Qw (by lia),i,w0Y,<-wb,<-wb]
theorem zcJ{L:List (List Int)}(h:zb3 s rows L):L=yX s rows:=by
 obtain⟨is,hp,rfl,a⟩:=h;unfold yX;rw [<-z3u hp (a.imp λ{i j} z=>wL (by unfold z2X;lia))]
theorem jo(T:TabOk th tr):∀{q:Qn},wfQ th q->∀r∈rowsOf th tr q,r.length=(zd th q).length
 | .table n,h=>λr m=>T.rl n h r m
 | .pick c q,h=>λr m=>jo T (q:=q) h.2.2 r (Qf.mp m).1
 | .cols ns q,h=>λr m=>by
  obtain⟨x,_,rfl⟩:=qe.mp m;rw [w9];rfl
 | .pair q s,h=>λr m=>by
  obtain⟨x,d,y,e,rfl⟩:=z27 m
  show _=(zd th q ++ zd th s).length
  rw [wg,wg,jo T (q:=q) h.2.2.1 x d,jo T (q:=s) h.2.2.2 y e]
 | .join a b q s,h=>λr m=>by
  obtain⟨x,d,y,e,rfl⟩:=z27 (Qf.mp m).1
  show _=(zd th q ++ zd th s).length
  rw [wg,wg,jo T (q:=q) h.2.2.2.2.1 x d,jo T (q:=s) h.2.2.2.2.2 y e]
 | .both q s,h=>λr m=>by
  rcases wB.mp m with m | m
  ·exact jo T (q:=q) h.2.1 r m
  ·have:=jo T (q:=s) h.2.2 r m;rw [<-h.1]at this;exact this
 | .first n q,h=>λr m=>jo T (q:=q) h.2 r (Qy m)
 | .group a b n s q,h=>λr m=>by
  obtain⟨x,_,rfl⟩:=qe.mp m
  rfl
 | .sort a q,h=>λr m=>jo T (q:=q) h.2 r (z5B m)
theorem z3t:∀{q:Qn},kh th tr q->(rowsOf th tr q).length<=60
 | .table n,h=>h
 | .pick c q,h=>wP (qh _ _) (z3t (q:=q) h)
 | .cols ns q,h=>by show(List.map _ _).length<=60;rw [w9];exact z3t (q:=q) h
 | .pair q r,h=>by show(pairs _ _).length<=60;rw [pairs_len];exact h.2.2
 | .join a b q r,h=>wP (qh _ _) (by rw [pairs_len];exact h.2.2)
 | .both q r,h=>by show(rowsOf th tr q ++ rowsOf th tr r).length<=60;rw [wg];exact h.2.2
 | .first n q,h=>by show(List.take _ _).length<=60;rw [wK];have:=z3t (q:=q) h;lia
 | .group a b n s q,h=>by show(List.map _ _).length<=60;rw [w9];exact wP (z3a _) (z3t (q:=q) h)
 | .sort a q,h=>by show(yX _ _).length<=60;rw [z3l];exact z3t (q:=q) h
theorem z7A(h:kh th tr q):∀r∈kids q,kh th tr r:=by cases q <;> simp_all [kids,kh]
def zb7(h:kh th tr q):∀r∈post q,kh th tr r:=z7b (λ_=>z7A) _ h
inductive spROT (K:W.Frag) (vs:List V) (H:Hp) (Q:VK) (E:XK):Prop
 | mk:∀th tr tp n,vs= [.ref tp,.str n]->jq th tr H tp->n∈tabs->(∀(rp:Addr) (rs:List (Addr×List Int)) (H':Hp),zw H H'->RowsAt H' rp rs->rs.map (·.2)=tr n->Q (.ref rp) H')->spROT K vs H Q E
theorem z33:FnScope ["tables","name"] ["tables","name"] (zi yR):=by walk_at "s"
theorem z3g(F:Fun K "rows_of_table" "rows_of_table" yR f fd)(T:Txt K mg):FnOk P w K mg base CX0 1 f fd ["tables","name"] (spROT K):=by
 refine F.okB z33 (λvs H Q E h=> ?_) (λvs H Q E h=> ?_)
 ·obtain⟨th,tr,tp,n,rfl,_⟩:=h
  rfl
 obtain⟨th,tr,tp,n,rfl,G,hn,fin⟩:=h;obtain⟨vs,l,r,o⟩:=z2x G;obtain⟨j,b,a⟩:=z91 hn;obtain⟨Y,t,Z,X,y,N,D,d,J,C,q⟩:=o j b;have uniq:∀i,i < 4->tabs.getD i ""=n->i=j:=λi hi e=>by
  rw [<-a]at e;have u:∀i,i < 4->∀j,j < 4->tabs.getD i ""=tabs.getD j ""->i=j:=by decide +kernel
  exact u i hi j b e
 rw [a]at d J q;intro ac A outer O hr;refine⟨_,(zf (zr (ixL (jC rfl (CompSc.of (sx:=zi yR) (NX:= ["tables","name"]) (fr:= ["name"]) (ix:= [1]) rfl rfl (by decide +kernel)) (zR v0) (λ_ _ _ _ _ _=>(z29 (cmT zM (yw (z00 (K:=K) rfl) v0 za (λ_ _=>rfl)) v1))) (λ_ _ _ _ _ _=>(yw (z00 (K:=K) rfl) v0 za (λ_ _=>rfl)))) za))),?_⟩;generalize hK0:K=K1
 revert K1
 refine jj (by walk_at "cl") ?_;refine !⟨tp,rfl,⟨_,SqL.of l⟩,?_⟩;refine z0t (xs:=vs) (λi ys H'=>H'=H/\ys=if j < i then [.ref y]else []) ⟨rfl,by rw [wM (Nat.not_lt_zero _)]⟩ ?_ ?_ ?_
 ·rintro i ys H' hi ⟨rfl,rfl⟩;exact⟨SqL.of l,zE (by split <;> simp)⟩
 ·rintro i x ys H' hi ⟨rfl,rfl⟩;have B:i < 4:=by rw [<-r];exact(we.mp hi).1
  obtain⟨v,c,p,hp,rp,rs,rfl,L,S,R,U⟩:=o i B;rw [hi]at c;cases c;refine !(zh L zH (!⟨rfl,!?_⟩));by_cases e:tabs.getD i ""=n
  ·refine ifT (by rw [zY];exact wL e) ?_;have M:=uniq i B e;subst M;rw [hi]at t;cases t;cases D;refine !(zh d jz ⟨rfl,?_⟩);rw [wM (QU _),wY (w0n _)]
   rfl
  ·refine ifF (by rw [zY];exact wH e) ?_;refine⟨rfl,?_⟩;have:i≠j:=λz=>e (by rw [z];exact a)
   by_cases h:j < i
   ·rw [wY h,wY (by lia)]
   ·rw [wM h,wM (by lia)]
 ·rintro ys H' ⟨rfl,rfl⟩ np I;rw [r,wY b];refine zg (upd _ np _) rfl I λH1 s x1=> ?_
  exact zu x1 zH (fin y N H1 s (C.same s) q)
inductive spNums (K:W.Frag) (vs:List V) (H:Hp) (Q:VK) (E:XK):Prop
 | mk:∀rp sp (xs:List Int) (is:List Nat),vs= [.ref rp,.ref sp]->SqL K H rp (xs.map V.int)->SqL K H sp (is.map λi:Nat=>V.int (i:Int))->(∀i∈is,i < xs.length)->is.length<=1000->(∀(p:Addr) (H':Hp),zw H H'->H p=none->H' p=some (.lst ((is.map λi=>xs.getD i 0).map V.int))->Q (.ref p) H')->spNums K vs H Q E
theorem z4Z:FnScope ["row","spots"] ["row","spots"] (zi z0o):=by walk_at "s"
theorem z5a(F:Fun K "numbers_at" "numbers_at" z0o f fd)(T:Txt K mg):FnOk P w K mg base CX0 1 f fd ["row","spots"] (spNums K):=by
 refine F.okB z4Z (λvs H Q E h=> ?_) (λvs H Q E h=> ?_)
 ·obtain⟨rp,sp,xs,is,rfl,_⟩:=h
  rfl
 obtain⟨rp,sp,xs,is,rfl,j,b,e,hl,fin⟩:=h;intro ac A outer l hr;refine⟨_,(zf (zr (jC rfl (CompSc.of (sx:=zi z0o) (NX:= ["row","spots"]) (fr:= ["row"]) (ix:= [0]) rfl rfl (by decide +kernel)) (zR v1) (λ_ _ _ _ _ _=>jg) (λ_ _ _ _ _ _=>(yw (yz (K:=K) rfl) v1 v0 (λ_ _=>rfl)))))),?_⟩;generalize hK0:K=K1
 revert K1
 refine jj (by walk_at "cl") ?_;refine !⟨sp,rfl,⟨_,b⟩,?_⟩;refine ja (xs:=is.map λi:Nat=>V.int (i:Int)) (λi ys H'=>H'=H/\ys=((is.take i).map λi=>xs.getD i 0).map V.int) ⟨rfl,rfl⟩ ?_ ?_ ?_
 ·rintro i ys H' hi ⟨rfl,rfl⟩;exact⟨b,zE (by rw [w9,w9,wK];lia)⟩
 ·rintro i x ys H' hi ⟨rfl,rfl⟩;have a:i < is.length:=by
   have:=(we.mp hi).1
   rwa [w9]at this
  rw [wF,wa a]at hi;cases hi;refine !(!⟨rp,_,_,!⟨rfl,j,zW (int_at (e _ (wu a))),rfl,?_⟩⟩);rw [wQ,wa a,wD,wD]
  rfl
 ·rintro ys H' ⟨rfl,rfl⟩ np c;rw [w9,qc];refine zg (upd _ np _) rfl c λH1 d x1=> ?_
  exact fin np H1 d c x1
inductive spPaired (K:W.Frag) (vs:List V) (H:Hp) (Q:VK) (E:XK):Prop
 | mk:∀a b rs os,vs= [.ref a,.ref b]->RowsAt H a rs->RowsAt H b os->rs.length * os.length<=60->os.length<=60->(∀r∈rs,r.2.length<=100)->(∀r∈os,r.2.length<=100)->(∀(p:Addr) (qs:List (Addr×List Int)) (H':Hp),zw H H'->RowsAt H' p qs->qs.map (·.2)=pairs (rs.map (·.2)) (os.map (·.2))->Q (.ref p) H')->spPaired K vs H Q E
theorem z3e:FnScope ["rows","others","found","row"] ["rows","others"] (zi z2O):=by walk_at "s"
theorem zas(F:Fun K "paired" "paired" z2O f fd)(T:Txt K mg):FnOk P w K mg base CX0 1 f fd ["rows","others"] (spPaired K):=by
 refine F.okB z3e (λvs H Q E h=> ?_) (λvs H Q E h=> ?_)
 ·obtain⟨a,b,rs,os,rfl,_⟩:=h
  rfl
 obtain⟨a,b,rs,os,rfl,ha,C,hlen,Al,Y,U,fin⟩:=h;intro ac A outer sh hr;refine⟨_,(zc (seT 2 z3e (zF ze))
  (zc (foR (zR v0) (z0s (i:=3) z3e.nd rfl (QI rfl))
   (zf (jd (ky wU PySem.F.slot_list_extend PySem.F.type_list_extend z5x v2 (z0r (jC rfl (CompSc.of (sx:=zi z2O) (NX:= ["rows","others","found","row"]) (fr:= ["row"]) (ix:= [3]) rfl rfl (by decide +kernel)) (zR v1) (λ_ _ _ _ _ _=>jg) (λ_ _ _ _ _ _=>(zp kC v1 v0))) ze)))))
  (zf (zr v2)))),?_⟩
 generalize hK0:K=K1
 revert K1
 refine jj (by walk_at "cl") ?_;refine⟨(zA rfl),λfp N=> ?_⟩;refine zg (upd _ fp _) rfl N λH1 J x1=> ?_
 have M:(refs rs).length=rs.length:=w9 _;have G:(refs os).length=os.length:=w9 _;refine !⟨a,rfl,⟨_,SqL.of (J _ _ ha.1)⟩,yg (xs:=refs rs) (λi σ H'=>∃(qs:List (Addr×List Int)) (B:Option V),σ= [some (.ref a),some (.ref b),some (.ref fp),B]/\zw H H'/\RowsAt H' fp qs/\qs.map (·.2)=pairs ((rs.take i).map (·.2)) (os.map (·.2)))
  ⟨[],none,rfl,J,yB x1,rfl⟩ ?_ ?_ ?_⟩
 ·rintro i σ H' _ ⟨qs,B,rfl,s',_⟩;exact SqL.of (s' _ _ ha.1)
 ·rintro i x σ H' hi ⟨qs,B,rfl,s2,hq,eq⟩;have t:i < rs.length:=by
   have:=(we.mp hi).1
   rwa [M]at this
  rw [jZ t]at hi;cases hi;have X:=(ha.2 _ (wu t)).2;have Am:=Y _ (wu t);have lq:qs.length=i * os.length:=by
   have:=Q6 List.length eq;rw [w9,pairs_len,w9,w9,wK]at this;rw [this,Nat.min_eq_left (by lia)]
  have Ep:qs.length + os.length<=60:=by
   have h1:(i + 1) * os.length<=rs.length * os.length:=Qz _ (by lia);rw [w1l,Nat.one_mul]at h1
   lia
  refine !⟨.inl ⟨rfl,_,SqL.of hq.1⟩,!⟨b,rfl,⟨_,SqL.of (s2 _ _ C.1)⟩,?_⟩⟩;refine ja (xs:=refs os) (λj ys l=>zw H' l/\∃ps:List (Addr×List Int),ys=refs ps/\(∀p∈ps,H' p.1=none/\l p.1=some (.lst (p.2.map V.int)))/\ps.map (·.2)=(os.take j).map λy=>rs[i].2 ++ y.2) ⟨zw.refl _,[],rfl,λ_ z=>(nomatch z),rfl⟩ ?_ ?_ ?_
  ·rintro j ys l o ⟨c,ps,rfl,n,e⟩;refine⟨SqL.of (c _ _ (s2 _ _ C.1)),zE ?_⟩;have:=Q6 List.length e;rw [w9,w9,wK]at this;rw [w9]
   lia
  ·rintro j y ys l o ⟨c,ps,rfl,n,e⟩;have q:j < os.length:=by
    have:=(we.mp o).1
    rwa [G]at this
   rw [jZ q]at o;cases o;have Z:=(C.2 _ (wu q)).2;have Ao:=U _ (wu q);refine !(!⟨rs[i].1,os[j].1,_,!⟨rfl,c _ _ (s2 _ _ X),c _ _ (s2 _ _ Z),jb (by rw [w9,w9];lia),λnp L=> ?_⟩⟩);refine zg (upd _ np _) rfl L λR d u=> ?_
   rw [<-wD]at u;refine⟨c.trans d,ps ++ [(np,rs[i].2 ++ os[j].2)],by simp [refs],λp hp=> ?_,?_⟩
   ·rcases wB.mp hp with hp | hp
    ·exact⟨(n p hp).1,d _ _ (n p hp).2⟩
    ·rw [wx.mp hp];exact⟨c.free L,u⟩
   ·rw [wD,e,wQ,wa q,wD]
    rfl
  ·rintro ys l ⟨c,ps,rfl,n,e⟩ cp O;rw [G,qc]at e;refine zg (upd _ cp _) rfl O λR d u=> ?_
   have I:=c.trans d;have s:=hq.same I;have Er:ps.length=os.length:=by
    have:=Q6 List.length e
    rwa [w9,w9]at this
   refine⟨fp,cp,_,!⟨rfl,s.1,u,jb (by rw [w9,w9];lia),?_⟩⟩;refine⟨qs ++ ps,!⟨(s2.trans I).put N,⟨by rw [zj];simp [refs],λr m=> ?_⟩,?_⟩⟩
   ·rcases wB.mp m with m | m
    ·exact⟨(s.2 r m).1,by rw [zl (s.2 r m).1];exact(s.2 r m).2⟩
    ·have D:=n r m;have nf:r.1≠fp:=λz=>by
      have:=D.1;rw [z,hq.1]at this;cases this
     exact⟨nf,by rw [zl nf];exact d _ _ D.2⟩
   ·have S:(rs.map (·.2))[i]? =some rs[i].2:=z1p t;rw [wD,eq,e,QJ,QJ,z4b S,Qe]
    rfl
 ·rintro σ H' ⟨qs,B,rfl,s',hq,eq⟩;rw [M,qc]at eq;exact !(fin fp qs H' s' hq eq)
inductive spR1 (K:W.Frag) (T1 T2 T3:Addr) (vs:List V) (H:Hp) (Q:VK) (E:XK):Prop
 | mk:∀th tr q r v hp rp rs,vs= [v,.ref hp,.ref rp]->TabOk th tr->QAt H q v->kids q= [r]->wfQ th q->wfQ th r->H hp=some (.lst ((zd th r).map V.str))->RowsAt H rp rs->rs.map (·.2)=rowsOf th tr r->(rowsOf th tr r).length<=60->Ls T1 T2 T3 H->(∀(p:Addr) (qs:List (Addr×List Int)) (H':Hp),Nt H H'->Ls T1 T2 T3 H'->RowsAt H' p qs->qs.map (·.2)=rowsOf th tr q->Q (.ref p) H')->spR1 K T1 T2 T3 vs H Q E
theorem kM:FnScope ["question","heads","rows","word","spots"] ["question","heads","rows"] (zi jT):=by walk_at "s"
theorem z3r(F:Fun K "rows_over_one" "rows_over_one" jT f fd)(T:Txt K mg)(C:Kn P w K mg base 3 "holds" ["condition","heads","row"] (spHolds K))(d:Kn P w K mg base 1 "numbers_at" ["row","spots"] (spNums K))(t:Kn P w K mg base 2 "grouped" ["rows","spot","place"] (spGrouped K))(o:Kn P w K mg base 3 "in_order" ["rows","spot"] (spOrder K T3)):FnOk P w K mg base CX0 4 f fd ["question","heads","rows"] (spR1 K T1 T2 T3):=by
 refine F.okB kM (λvs H Q E h=> ?_) (λvs H Q E h=> ?_)
 ·obtain⟨th,tr,q,r,v,hp,rp,rs,rfl,_⟩:=h
  rfl
 obtain⟨th,tr,q,r,v,hp,rp,rs,rfl,TT,hq,D,wf,i4,G,I,L,mY,J,fin⟩:=h;intro ac A outer sh hr;refine⟨_,(zc (seT 3 kM (ixT v0 za))
  (zc (zD (cmT zM v3 zo)
   (zf (zr (jC rfl (CompSc.of (sx:=zi jT) (NX:= ["question","heads","rows","word","spots"]) (fr:= ["question","heads"]) (ix:= [0,1]) rfl rfl (by decide +kernel)) (zR v2) (λ_ _ _ _ _ _=>(z29 (ji (zQ C hr.m (zm (yw (z00 (K:=K) rfl) v1 za (λ_ _=>rfl)) (zb v2 (zb v0 ze))))))) (λ_ _ _ _ _ _=>v0))))
   zv)
  (zc (zD (cmT zM v3 zo)
   (zc (yI (i:=4) kM.nd rfl (QI rfl) (jC rfl (CompSc.of (sx:=zi jT) (NX:= ["question","heads","rows","word","spots"]) (fr:= ["heads"]) (ix:= [1]) rfl rfl (by decide +kernel)) (z34 (ixT v0 za)) (λ_ _ _ _ _ _=>jg) (λ_ _ _ _ _ _=>(zc6 (K:=K) rfl wU qB qE (z5p (K:=K) rfl) v1 (zb v0 ze)))))
   (zf (zr (jC rfl (CompSc.of (sx:=zi jT) (NX:= ["question","heads","rows","word","spots"]) (fr:= ["spots"]) (ix:= [4]) rfl rfl (by decide +kernel)) (zR v2) (λ_ _ _ _ _ _=>jg) (λ_ _ _ _ _ _=>(zQ d hr.m (zb v0 (zb v1 ze))))))))
   zv)
  (zc (zD (cmT zM v3 zo)
   (zf (zr (zQ t hr.m (zb v2 (zO (ky wU qB qE yi v1 (zm (ixT v0 za) ze)) (zO (ky wU qB qE yi v1 (zm (ixT v0 za) ze)) ze))))))
   zv)
  (zc (zD (cmT zM v3 zo)
   (zf (zr (zQ o hr.m (zb v2 (zO (ky wU qB qE yi v1 (zm (ixT v0 za) ze)) ze)))))
   zv)
  (zf (zr (jr yF v2 jX (jH (ixT v0 za)))))))))),?_⟩
 generalize hK0:K=K1;generalize hK1:T1=T11;generalize hK2:T2=T21;generalize hK3:T3=T31
 revert T31
 revert T21
 revert T11
 revert K1
 refine z84 (by walk_at "cl") ?_;have no:∀{a b:Str},a≠b->decide (V.str a=V.str b)=false:=λ{a b} h=>by rw [zY];exact wH h
 have yes:∀a:Str,decide (V.str a=V.str a)=true:=λa=>wL rfl
 have aw:(refs rs).length=rs.length:=w9 _;have Ap:rs.length<=60:=by rw [<-L,w9]at mY;exact mY
 have hd:=jy TT i4;have bF:∀x∈rs,x.2.length=(zd th r).length:=λx m=>jo TT i4 x.2 (by rw [<-L];exact qe.mpr ⟨x,m,rfl⟩)
 have Y:∀{n:Str},n∈zd th r->∀x∈rs,(zd th r).idxOf n < x.2.length:=λ{n} hn x m=>by rw [bF x m];exact qz.mpr hn
 cases q with
 | table n=>cases D
 | pair a b=>cases D
 | join x y a b=>cases D
 | both a b=>cases D
 | pick c q'=>
  cases (show q'=r from(List.cons.inj D).1);obtain⟨p,x,y,rfl,h1,h2,Z⟩:=hq;refine !(zh h1 zH ?_);refine !⟨rfl,!?_⟩;refine ifT (yes _) ?_;refine !⟨rp,rfl,⟨_,SqL.of I.1⟩,?_⟩;refine z0t (xs:=refs rs) (λi ys H'=>zw H H'/\ys=refs ((rs.take i).filter λz=>ev (zd th r) z.2 c)) ⟨zw.refl _,rfl⟩ ?_ ?_ ?_
  ·rintro i ys H' hi ⟨B,rfl⟩;refine⟨SqL.of (B _ _ I.1),zE ?_⟩;have:=qh (λz:Addr×List Int=>ev (zd th r) z.2 c) (rs.take i);rw [w9];rw [wK]at this
   lia
  ·rintro i z ys H' hi ⟨B,rfl⟩;have ad:i < rs.length:=by
    have:=(we.mp hi).1
    rwa [aw]at this
   rw [jZ ad]at hi;cases hi;refine !(zh (B _ _ h1) j8 (!(!⟨c,x,hp,rs[i].1,zd th r,rs[i].2,rfl,h2.same B,wf.1,by have:=wf.2.1;lia,SqL.of (B _ _ G),SqL.of (B _ _ (I.2 _ (wu ad)).2),(bF _ (wu ad)).symm,λN u=>!?_⟩)));have ft:=z0J (λz:Addr×List Int=>ev (zd th r) z.2 c) rs (wa ad);cases hev:ev (zd th r) rs[i].2 c with
   | true=>
    refine ifT rfl ?_;refine !⟨B.trans u,?_⟩;rw [ft,hev,wY rfl];simp [refs]
   | false=>
    refine ifF rfl ?_;refine⟨B.trans u,?_⟩;rw [ft,hev];simp
  ·rintro ys H' ⟨B,rfl⟩ np S;rw [aw,qc];refine zg (upd _ np _) rfl S λH2 n2 x2=> ?_
   have s2:=B.trans n2;refine fin np _ H2 (Nt.of s2) (J.same s2) (yl S n2 x2 λr m=>B _ _ (I.2 r (Qf.mp m).1).2) ?_
   show _=(rowsOf th tr r).filter _
   rw [<-L,QK]
   rfl
 | cols ns q'=>
  cases (show q'=r from(List.cons.inj D).1);obtain⟨p,x,y,rfl,h1,h2,Z⟩:=hq;have rC:=wf.2.1;have cM:ns.length<=100:=wP (zbX wf.1 rC) hd.2;refine !(zh h1 zH ?_);refine !⟨rfl,!?_⟩;refine ifF (no (by decide +kernel)) ?_;refine !⟨rfl,!?_⟩;refine ifT (yes _) ?_;refine !(zh h1 j8 ⟨x,rfl,⟨_,SqT.of h2⟩,?_⟩);refine z3d (xs:=ns.map V.str) (λi ys H'=>H'=H/\ys=((ns.take i).map λn=>(zd th r).idxOf n).map λi:Nat=>V.int (i:Int)) ⟨rfl,rfl⟩ ?_ ?_ ?_
  ·rintro i ys H' hi ⟨rfl,rfl⟩;exact⟨SqT.of h2,zE (by rw [w9,w9,wK];lia)⟩
  ·rintro i z ys H' hi ⟨rfl,rfl⟩;have b7:i < ns.length:=by
    have:=(we.mp hi).1
    rwa [w9]at this
   rw [wF,wa b7]at hi;cases hi;have dQ:=jh (rC _ (wu b7));refine !⟨.inl ⟨rfl,_,SqL.of G⟩,!⟨hp,_,_,(zd th r).idxOf ns[i],rfl,rfl,SqL.of G,rfl,zT _,dQ.1,dQ.2,rfl,?_⟩⟩;rw [wQ,wa b7,wD,wD]
   rfl
  ·rintro ys H' ⟨rfl,rfl⟩ sp ao;rw [w9,qc];refine zg (upd _ sp _) rfl ao λH1 M x1=> ?_
   have rD:=I.same M;refine !⟨rp,rfl,⟨_,SqL.of rD.1⟩,?_⟩;refine ja (xs:=refs rs) (λj ys N=>zw H1 N/\∃ps:List (Addr×List Int),ys=refs ps/\(∀p∈ps,H1 p.1=none/\N p.1=some (.lst (p.2.map V.int)))/\ps.map (·.2)=(rs.take j).map λz=>ns.map λn=>z.2.getD ((zd th r).idxOf n) 0) ⟨zw.refl _,[],rfl,λ_ z=>(nomatch z),rfl⟩ ?_ ?_ ?_
   ·rintro j ys N X ⟨u,ps,rfl,U,e⟩;refine⟨SqL.of (u _ _ rD.1),zE ?_⟩;have:=Q6 List.length e;rw [w9,w9,wK]at this;rw [w9]
    lia
   ·rintro j z ys N X ⟨u,ps,rfl,U,e⟩;have gC:j < rs.length:=by
     have:=(we.mp X).1
     rwa [aw]at this
    rw [jZ gC]at X;cases X;have hm:=wu gC;refine !(!⟨rs[j].1,sp,rs[j].2,ns.map λn=>(zd th r).idxOf n,rfl,SqL.of (u _ _ (rD.2 _ hm).2),SqL.of (u _ _ x1),λi m=> ?_,by rw [w9];lia,λnp H4 R aa x4=> ?_⟩)
    ·obtain⟨n,hn,rfl⟩:=qe.mp m;exact Y (rC n hn) _ hm
    ·refine⟨u.trans R,ps ++ [(np,ns.map λn=>rs[j].2.getD ((zd th r).idxOf n) 0)],by simp [refs],λp hp=> ?_,?_⟩
     ·rcases wB.mp hp with hp | hp
      ·exact⟨(U p hp).1,R _ _ (U p hp).2⟩
      ·rw [wx.mp hp];refine⟨u.free aa,?_⟩;have e5:((ns.map λn=>(zd th r).idxOf n).map λi=>rs[j].2.getD i 0)=ns.map λn=>rs[j].2.getD ((zd th r).idxOf n) 0:=Qe
       rw [e5]at x4;exact x4
     ·rw [wD,e,wQ,wa gC,wD]
      rfl
   ·rintro ys N ⟨u,ps,rfl,U,e⟩ np S;rw [aw,qc]at e;refine zg (upd _ np _) rfl S λH4 R x4=> ?_
    have s4:=M.trans (u.trans R);refine fin np ps H4 (Nt.of s4) (J.same s4) (yl S R x4 λr m=>(U r m).2) ?_
    show _=(rowsOf th tr r).map _
    rw [e,<-L,Qe]
    rfl
 | group a b n s q'=>
  cases (show q'=r from(List.cons.inj D).1);obtain⟨p,y,rfl,h1,Z⟩:=hq;refine !(zh h1 zH ?_);refine !⟨rfl,!?_⟩;refine ifF (no (by decide +kernel)) ?_;refine !⟨rfl,!?_⟩;refine ifF (no (by decide +kernel)) ?_;refine !⟨rfl,!?_⟩;refine ifT (yes _) ?_;have O:=jh wf.1;have ib:=jh wf.2.1;refine !(!⟨.inl ⟨rfl,_,SqL.of G⟩,!(zh h1 j8 ⟨hp,_,_,(zd th r).idxOf a,rfl,rfl,SqL.of G,rfl,zT _,O.1,O.2,!⟨.inl ⟨rfl,_,SqL.of G⟩,!(zh h1 jz ⟨hp,_,_,(zd th r).idxOf b,rfl,rfl,SqL.of G,rfl,zT _,ib.1,ib.2,?_⟩)⟩⟩)⟩);refine⟨rp,rs,_,_,rfl,I,w0Z _,w0Z _,λr m=>⟨Y wf.1 r m,Y wf.2.1 r m,by rw [bF r m];exact hd.2⟩,by lia,λp qs H' s' aG e=>fin p qs H' (Nt.of s') (J.same s') aG ?_⟩;rw [e,L,za9]
  rfl
 | sort a q'=>
  cases (show q'=r from(List.cons.inj D).1);obtain⟨p,y,rfl,h1,Z⟩:=hq;refine !(zh h1 zH ?_);refine !⟨rfl,!?_⟩;refine ifF (no (by decide +kernel)) ?_;refine !⟨rfl,!?_⟩;refine ifF (no (by decide +kernel)) ?_;refine !⟨rfl,!?_⟩;refine ifF (no (by decide +kernel)) ?_;refine !⟨rfl,!?_⟩;refine ifT (yes _) ?_;have O:=jh wf.1;refine !(!⟨.inl ⟨rfl,_,SqL.of G⟩,!(zh h1 j8 ⟨hp,_,_,(zd th r).idxOf a,rfl,rfl,SqL.of G,rfl,zT _,O.1,O.2,?_⟩)⟩);refine⟨rp,rs,_,rfl,I,w0Z _,λr m=>⟨Y wf.1 r m,by rw [bF r m];exact hd.2⟩,by lia,J.c,λp qs H' k' l' aG e=>fin p qs H' (z8M J.c k') (J.kp3 k' l') aG ?_⟩;rw [zcJ e,L]
  rfl
 | first n q'=>
  cases (show q'=r from(List.cons.inj D).1);obtain⟨p,y,rfl,h1,Z⟩:=hq;refine !(zh h1 zH ?_);refine !⟨rfl,!?_⟩;refine ifF (no (by decide +kernel)) ?_;refine !⟨rfl,!?_⟩;refine ifF (no (by decide +kernel)) ?_;refine !⟨rfl,!?_⟩;refine ifF (no (by decide +kernel)) ?_;refine !⟨rfl,!?_⟩;refine ifF (no (by decide +kernel)) ?_;refine !(!(zh h1 j8 (!⟨rp,!⟨SqL.of I.1,λl hl=> ?_⟩⟩)));rw [z18 wf.1,<-QJ];refine zg (upd _ l _) rfl hl λH1 M x1=> ?_
  refine fin l (rs.take n.toNat) H1 (Nt.of M) (J.same M) (yl hl M x1 λr m=>(I.2 r (Qy m)).2) ?_
  show _=(rowsOf th tr r).take _
  rw [<-L,QJ]
def z1o(th:Str->List Str)(tr:Str->List (List Int))(r:Qn)(v:V)(H:Hp):Prop:=∃(p hp rp:Addr) (rs:List (Addr×List Int)),v= .ref p/\H p=some (.tup [.ref hp,.ref rp])/\H hp=some (.lst ((zd th r).map V.str))/\RowsAt H rp rs/\rs.map (·.2)=rowsOf th tr r
theorem z1o.nt{r:Qn}{v:V}(h:z1o th tr r v H)(k:Nt H H'):z1o th tr r v H':=by
 obtain⟨p,hp,rp,rs,e,h1,h2,b,a⟩:=h;exact⟨p,hp,rp,rs,e,k.tup h1,k.lst h2,b.nt k,a⟩
inductive spR2 (K:W.Frag) (vs:List V) (H:Hp) (Q:VK) (E:XK):Prop
 | mk:∀th tr q r t v v1 v2,vs= [v,v1,v2]->TabOk th tr->QAt H q v->kids q= [r,t]->wfQ th q->wfQ th r->wfQ th t->z1o th tr r v1 H->z1o th tr t v2 H->kh th tr q->kh th tr r->kh th tr t->(∀(p:Addr) (qs:List (Addr×List Int)) (H':Hp),zw H H'->RowsAt H' p qs->qs.map (·.2)=rowsOf th tr q->Q (.ref p) H')->spR2 K vs H Q E
theorem z3h:FnScope ["question","first","second"] ["question","first","second"] (zi z0c):=by walk_at "s"
theorem z3j(F:Fun K "rows_over_two" "rows_over_two" z0c f fd)(T:Txt K mg)(i:Kn P w K mg base 1 "paired" ["rows","others"] (spPaired K))(j:Kn P w K mg base 1 "joined" ["rows","others","spot","place"] (spJoined K)):FnOk P w K mg base CX0 2 f fd ["question","first","second"] (spR2 K):=by
 refine F.okB z3h (λvs H Q E h=> ?_) (λvs H Q E h=> ?_)
 ·obtain⟨th,tr,q,r,t,v,v1,v2,rfl,_⟩:=h
  rfl
 obtain⟨th,tr,q,r,t,v,v1,v2,rfl,TT,hq,o,wf,M,X,a1,a2,sq,sr,st,fin⟩:=h;obtain⟨p1,Z,N,G,rfl,f1,O,I,C⟩:=a1;obtain⟨p2,aU,J,D,rfl,f2,R,R2,B⟩:=a2;intro ac A outer sh hr;refine⟨_,(zc (zD (cmT zM (ixT v0 za) zo)
   (zf (zr (zp kC (ixT v1 za) (ixT v2 za))))
   zv)
  (zc (zD (cmT zM (ixT v0 za) zo)
   (zf (zr (zQ i hr.m (zm (ixT v1 za) (zm (ixT v2 za) ze)))))
   zv)
  (zf (zr (zQ j hr.m (zm (ixT v1 za) (zm (ixT v2 za) (zO (ky wU qB qE yi (ixT v1 za) (zm (ixT v0 za) ze)) (zO (ky wU qB qE yi (ixT v2 za) (zm (ixT v0 za) ze)) ze))))))))),?_⟩
 generalize hK0:K=K1
 revert K1
 refine jj (by walk_at "cl") ?_;have no:∀{a b:Str},a≠b->decide (V.str a=V.str b)=false:=λ{a b} h=>by rw [zY];exact wH h
 have yes:∀a:Str,decide (V.str a=V.str a)=true:=λa=>wL rfl
 have l1:G.length=(rowsOf th tr r).length:=by rw [<-C,w9]
 have l2:D.length=(rowsOf th tr t).length:=by rw [<-B,w9]
 have m1:=z3t sr;have m2:=z3t st;have d1:=jy TT M;have d2:=jy TT X;have w1:∀x∈G,x.2.length=(zd th r).length:=λx m=>jo TT M x.2 (by rw [<-C];exact qe.mpr ⟨x,m,rfl⟩)
 have w2:∀x∈D,x.2.length=(zd th t).length:=λx m=>jo TT X x.2 (by rw [<-B];exact qe.mpr ⟨x,m,rfl⟩)
 cases q with
 | table n=>cases o
 | pick c a=>cases o
 | cols ns a=>cases o
 | first n a=>cases o
 | sort n a=>cases o
 | group a b n s q=>cases o
 | both a b=>
  obtain⟨rfl,u⟩:=List.cons.inj o;obtain⟨rfl,_⟩:=List.cons.inj u;obtain⟨p,x,y,rfl,h1,h2,S⟩:=hq;refine !(zh h1 zH ⟨rfl,!?_⟩);refine ifT (yes _) ?_;refine !(zh f1 j8 (!(zh f2 j8 ⟨N,J,ex2 rfl rfl ⟨I.1,R2.1,jb (by rw [w9,w9];lia),λl hl=> ?_⟩⟩)));refine zg (upd _ l _) rfl hl λH1 U x1=> ?_
  refine fin l (G ++ D) H1 U (yl hl U (by rw [x1];simp [refs]) λz m=> ?_) (by rw [wD,C,B];rfl);rcases wB.mp m with m | m
  ·exact(I.2 z m).2
  ·exact(R2.2 z m).2
 | pair a b=>
  obtain⟨rfl,u⟩:=List.cons.inj o;obtain⟨rfl,_⟩:=List.cons.inj u;obtain⟨p,x,y,rfl,h1,h2,S⟩:=hq;refine !(zh h1 zH ⟨rfl,!?_⟩);refine ifF (no (by decide +kernel)) ?_;refine !(zh h1 zH ⟨rfl,!?_⟩);refine ifT (yes _) ?_;exact !(zh f1 j8 (!(zh f2 j8 ⟨N,J,G,D,rfl,I,R2,by rw [l1,l2];exact sq.2.2,by lia,λz m=>by rw [w1 z m];exact d1.2,λz m=>by rw [w2 z m];exact d2.2,λl qs H' s' L e=>fin l qs H' s' L (by rw [e,C,B];rfl)⟩)))
 | join c d a b=>
  obtain⟨rfl,u⟩:=List.cons.inj o;obtain⟨rfl,_⟩:=List.cons.inj u;obtain⟨p,x,y,rfl,h1,h2,S⟩:=hq;refine !(zh h1 zH ⟨rfl,!?_⟩);refine ifF (no (by decide +kernel)) ?_;refine !(zh h1 zH ⟨rfl,!?_⟩);refine ifF (no (by decide +kernel)) ?_;have Y:=jh wf.1;have id:=jh wf.2.1;refine !(zh f1 j8 (!(zh f2 j8 (!(zh f1 zH ⟨.inl ⟨rfl,_,SqL.of O⟩,!(zh h1 j8 ⟨Z,_,_,(zd th a).idxOf c,rfl,rfl,SqL.of O,rfl,zT _,Y.1,Y.2,!(zh f2 zH ⟨.inl ⟨rfl,_,SqL.of R⟩,!(zh h1 jz ⟨aU,_,_,(zd th b).idxOf d,rfl,rfl,SqL.of R,rfl,zT _,id.1,id.2,?_⟩)⟩)⟩)⟩)))));refine⟨N,J,G,D,_,_,rfl,I,R2,w0Z _,w0Z _,λz m=>⟨by rw [w1 z m];exact qz.mpr wf.1,by rw [w1 z m];exact d1.2⟩,λz m=>⟨by rw [w2 z m];exact qz.mpr wf.2.1,by rw [w2 z m];exact d2.2⟩,by lia,by lia,λl qs H' s' L e=>fin l qs H' s' L ?_⟩;rw [e,C,B];exact zcl wf.1 wf.2.1 wf.2.2.1 (jo TT M)
inductive spRowsAt (K:W.Frag) (T1 T2 T3:Addr) (vs:List V) (H:Hp) (Q:VK) (E:XK):Prop
 | mk:∀th tr q v tp wl ws,vs= [.ref tp,v,.ref wl]->TabOk th tr->jq th tr H tp->QAt H q v->wfQ th q->kh th tr q->H wl=some (.lst ws)->z06 (z1o th tr) H (kids q) ws->Ls T1 T2 T3 H->(∀(p:Addr) (qs:List (Addr×List Int)) (H':Hp),Nt H H'->Ls T1 T2 T3 H'->RowsAt H' p qs->qs.map (·.2)=rowsOf th tr q->Q (.ref p) H')->spRowsAt K T1 T2 T3 vs H Q E
theorem z86:FnScope ["tables","question","within"] ["tables","question","within"] (zi z37):=by walk_at "s"
theorem z8c(F:Fun K "rows_at" "rows_at" z37 f fd)(T:Txt K mg)(a:Kn P w K mg base 1 "rows_of_table" ["tables","name"] (spROT K))(c:Kn P w K mg base 4 "rows_over_one" ["question","heads","rows"] (spR1 K T1 T2 T3))(b:Kn P w K mg base 2 "rows_over_two" ["question","first","second"] (spR2 K)):FnOk P w K mg base CX0 5 f fd ["tables","question","within"] (spRowsAt K T1 T2 T3):=by
 refine F.okB z86 (λvs H Q E h=> ?_) (λvs H Q E h=> ?_)
 ·obtain⟨th,tr,q,v,tp,wl,ws,rfl,_⟩:=h
  rfl
 obtain⟨th,tr,q,v,tp,wl,ws,rfl,TT,N,hq,wf,D,d,rs,s,fin⟩:=h;intro ac A outer Z hr;refine⟨_,(zc (zD (cmT zM (leN T.len (zb v2 ze)) za)
   (zf (zr (zQ a hr.m (zb v0 (zm (ixT v1 za) ze)))))
   zv)
  (zc (zD (cmT zM (leN T.len (zb v2 ze)) za)
   (zf (zr (zQ c hr.m (zb v1 (zm (ixT (ixL v2 za) za) (zm (ixT (ixL v2 za) za) ze))))))
   zv)
  (zf (zr (zQ b hr.m (zb v1 (zm (ixL v2 za) (zm (ixL v2 za) ze)))))))),?_⟩
 generalize hK0:K=K1;generalize hK1:T1=T11;generalize hK2:T2=T21;generalize hK3:T3=T31
 revert T31
 revert T21
 revert T11
 revert K1
 refine z84 (by walk_at "cl") ?_;have z:=rs.len;have i:=z6B wf;have j:=z7A D;rcases zcb hq with⟨n,p,rfl,rfl,hp⟩ | ⟨r,p,w,xs,y,hk,rfl,hp,hy,b7,hw⟩ | ⟨r,t,p,w,xs,x,y,hk,rfl,hp,hx,hy,b7,hw⟩
 ·have l0:ws.length=0:=z;refine !⟨wl,!⟨.inl (SqL.of d),rfl,!?_⟩⟩;refine ifT (by rw [l0];simp) ?_;exact !(!(zh hp j8 ⟨th,tr,tp,n,rfl,N,wf,λrp rs H' s' o e=>fin rp rs H' (Nt.of s') (s.same s') o e⟩))
 ·rw [hk]at rs z i j;obtain⟨u,us,rfl,⟨p1,L,S,R,rfl,f1,J,I,B⟩,C⟩:=rs;have Y:us= []:=C;subst Y;have l:r∈ [r]:=wx.mpr rfl;refine !⟨wl,!⟨.inl (SqL.of d),rfl,!?_⟩⟩;refine ifF (by simp) ?_;refine !⟨wl,!⟨.inl (SqL.of d),rfl,!?_⟩⟩;refine ifT (by simp) ?_;exact !(!(zu d zH (zh f1 zH (!(zu d zH (zh f1 j8 ⟨th,tr,q,r,.ref p,L,S,R,rfl,TT,hq,hk,wf,i r l,J,I,B,z3t (j r l),s,fin⟩))))))
 ·rw [hk]at rs z i j;obtain⟨u,us,rfl,B,M,X,rfl,C,U⟩:=rs;have O:X= []:=U;subst O;have l:r∈ [r,t]:=qy;have G:t∈ [r,t]:=wX _ (wx.mpr rfl);refine !⟨wl,!⟨.inl (SqL.of d),rfl,!?_⟩⟩;refine ifF (by simp) ?_;refine !⟨wl,!⟨.inl (SqL.of d),rfl,!?_⟩⟩;refine ifF (by simp) ?_;exact !(!(zu d zH (!(zu d j8 ⟨th,tr,q,r,t,.ref p,u,M,rfl,TT,hq,hk,wf,i r l,i t G,B,C,D,j r l,j t G,λp qs H' s' o e=>fin p qs H' (Nt.of s') (s.same s') o e⟩))))
theorem z7q{th:Str->List Str}{tr:Str->List (List Int)}{H:Hp}:∀{qs:List Qn} {ws:List V},z06 (z1o th tr) H qs ws->∃hs:List Addr,hs.length=ws.length/\z06 (zdw th) H qs (hs.map V.ref)/\∀(i:Nat) (v:V),ws[i]? =some v->∃(p h r:Addr),v=V.ref p/\H p=some (.tup [.ref h,.ref r])/\hs[i]? =some h
 | [],_,h=>by
  have e:_= []:=h;subst e;exact⟨[],rfl,rfl,λi v z=>by cases z⟩
 | q :: qs,_,⟨v,us,e,⟨p,hp,rp,rs,ev,h1,h2,b,c⟩,a⟩=>by
  obtain⟨hs,l1,r1,f1⟩:=z7q a;subst e;refine⟨hp :: hs,by rw [wN,wN,l1],⟨.ref hp,hs.map V.ref,rfl,⟨hp,rfl,h2⟩,r1⟩,λi u z=> ?_⟩;cases i with
  | zero=>cases z;exact⟨p,hp,rp,ev,h1,rfl⟩
  | succ i=>exact f1 i u (by simpa using z)
inductive spAnswerAt (K:W.Frag) (T1 T2 T3:Addr) (vs:List V) (H:Hp) (Q:VK) (E:XK):Prop
 | mk:∀th tr q v tp wl ws,vs= [.ref tp,v,.ref wl]->TabOk th tr->jq th tr H tp->QAt H q v->wfQ th q->kh th tr q->H wl=some (.lst ws)->z06 (z1o th tr) H (kids q) ws->Ls T1 T2 T3 H->(∀(v':V) (H':Hp),Nt H H'->Ls T1 T2 T3 H'->z1o th tr q v' H'->Q v' H')->spAnswerAt K T1 T2 T3 vs H Q E
def z06.resN{qs:List Qn}(h:z06 (z1o th tr) H qs ws)(k:Nt H H'):z06 (z1o th tr) H' qs ws:=h.imp λ_ _ z=>z.nt k
theorem z23(q:Qn):(kids q).length<=2:=by cases q <;> simp [kids]
theorem z2U:FnScope ["tables","question","within","heads"] ["tables","question","within"] (zi z0L):=by walk_at "s"
theorem z5S(F:Fun K "answer_at" "answer_at" z0L f fd)(T:Txt K mg)(a:Kn P w K mg base 3 "heads_at" ["tables","question","within"] (spHeadsAt K))(b:Kn P w K mg base 5 "rows_at" ["tables","question","within"] (spRowsAt K T1 T2 T3)):FnOk P w K mg base CX0 6 f fd ["tables","question","within"] (spAnswerAt K T1 T2 T3):=by
 refine F.okB z2U (λvs H Q E h=> ?_) (λvs H Q E h=> ?_)
 ·obtain⟨th,tr,q,v,tp,wl,ws,rfl,_⟩:=h
  rfl
 obtain⟨th,tr,q,v,tp,wl,ws,rfl,TT,o,hq,wf,B,j,rs,D,fin⟩:=h;obtain⟨hs,J,t,L⟩:=z7q rs;have U:=rs.len;have X:=z23 q;intro ac A outer R hr;refine⟨_,(zc (seT 3 z2U (zQ a hr.m (zb v0 (zb v1 (z0r (jC rfl (CompSc.of (sx:=zi z0L) (NX:= ["tables","question","within","heads"]) (fr:= []) (ix:= []) rfl rfl (by decide +kernel)) (zR v2) (λ_ _ _ _ _ _=>jg) (λ_ _ _ _ _ _=>(yw (z00 (K:=K) rfl) v0 za (λ_ _=>rfl)))) ze)))))
  (zf (zr (zG (zb v3 (zO (zQ b hr.m (zb v0 (zb v1 (zb v2 ze)))) ze)))))),?_⟩
 generalize hK0:K=K1;generalize hK1:T1=T11;generalize hK2:T2=T21;generalize hK3:T3=T31
 revert T31
 revert T21
 revert T11
 revert K1
 refine z84 (by walk_at "cl") ?_;refine !(!(!⟨wl,rfl,⟨_,SqL.of j⟩,?_⟩));refine ja (xs:=ws) (λi ys H'=>H'=H/\ys=(hs.take i).map V.ref) ⟨rfl,rfl⟩ ?_ ?_ ?_
 ·rintro i ys H' hi ⟨rfl,rfl⟩;exact⟨SqL.of j,zE (by rw [w9,wK];lia)⟩
 ·rintro i x ys H' hi ⟨rfl,rfl⟩;obtain⟨p,h,r,rfl,h1,h2⟩:=L i x hi;refine !(zh h1 zH ⟨rfl,?_⟩);rw [wQ,h2,wD]
  rfl
 ·rintro ys H' ⟨rfl,rfl⟩ np N;rw [<-J,qc];refine zg (upd _ np _) rfl N λH1 c x1=> ?_
  refine⟨th,tr,q,v,tp,np,_,rfl,TT,o.same c,hq.same c,wf,x1,t.imp λr u ⟨hp,e,z⟩=>⟨hp,e,c _ _ z⟩,λhp H2 G I=> ?_⟩;have n12:=c.trans G;refine !(!(!(!⟨th,tr,q,v,tp,wl,ws,rfl,TT,o.same n12,hq.same n12,wf,B,n12 _ _ j,rs.resN (Nt.of n12),D.same n12,λrp qs S s y C e=> ?_⟩)));refine⟨(zA rfl),λn l=> ?_⟩;refine zg (upd _ n _) rfl l λO d M=> ?_
  exact fin _ O ((Nt.of n12).trans (s.trans (Nt.of d))) (y.same d) ⟨n,hp,rp,qs,rfl,M,d _ _ (s.lst I),C.same d,e⟩
inductive spPlain (K:W.Frag) (T1 T2 T3:Addr) (vs:List V) (H:Hp) (Q:VK) (E:XK):Prop
 | mk:∀th tr q v tp,vs= [.ref tp,v]->TabOk th tr->jq th tr H tp->QAt H q v->wfQ th q->kh th tr q->(post q).length<=8000000->Ls T1 T2 T3 H->(∀(v':V) (H':Hp),Nt H H'->Ls T1 T2 T3 H'->z1o th tr q v' H'->Q v' H')->spPlain K T1 T2 T3 vs H Q E
theorem z3M:FnScope ["tables","question"] ["tables","question"] (zi ko):=by walk_at "s"
theorem z3S{c:Addr}(F:Fun K "plain_answer" "plain_answer" ko f fd)(T:Txt K mg)(hc:fd.code= .ref c)(C:PySem.W.CodeHd base c T2)(B:base.BuiltinsAt mg T2)(i:Kn P w K mg base 10 "heads_of" ["tables","question"] (spHeadsOf K T1 T2 T3))(l:KnS P w K mg base CX0 9 "built_up" ["question","work"] (z45 P w K mg base 8))(d:Kn P w K mg base 6 "answer_at" ["tables","question","within"] (spAnswerAt K T1 T2 T3)):FnOk P w K mg base CX0 11 f fd ["tables","question"] (spPlain K T1 T2 T3):=by
 refine F.okC z3M (λvs H Q E h=> ?_) (λA outer s H vs Q E hr h=> ?_)
 ·obtain⟨th,tr,q,v,tp,rfl,_⟩:=h
  rfl
 obtain⟨th,tr,q,v,tp,rfl,TT,G,hq,wf,M,hsz,N,fin⟩:=h;refine⟨_,(zc (jd (z1M i hr rfl (zb (pv 0) (zb (pv 1) ze))))
  (zf (zr (z2o (k:=6) (T:=T2) (c:=c) (j:=0) (a:="place") (b:="within") (y:="tables") l z31 (hr.mono (by decide)) rfl (pv 1) hc C B ⟨rfl,rfl,rfl,rfl,rfl,rfl,by decide +kernel,by decide +kernel,by decide +kernel⟩ (w02 rfl) rfl
  (λ_ _ _ _ _ _ _ _ hl=>z1M d hl rfl (zb (pv 2) (zb (pv 0) (zb (pv 1) ze)))))))),?_⟩
 refine !(!⟨th,tr,q,v,tp,rfl,TT,G,hq,wf,hsz,N,λhp H1 O o x1=> ?_⟩);refine !⟨o.b,.ref tp,rfl,λlf c' H2 s2 x J W=> ?_⟩;have t:=O.trans (z8M o.b x);have p:=o.kp2 x (.inr ⟨c',J⟩);refine⟨v,q,lf,_,Ls T1 T2 T3,z1o th tr,rfl,hq.nt t,hsz,W.mono (by decide),p,λH1 H2 e z=>z.same e,λr u H1 H2 n z=>z.nt n,λr I D wl ws Z Q1 Y L U R rs k=> ?_,λv' H' X S z=>fin v' H' (t.trans X) S z⟩;exact⟨D,.ref wl,rfl,!(!(!⟨th,tr,r,D,tp,wl,ws,rfl,TT,G.nt (t.trans Y),U,z6C wf r I,zb7 M r I,R,rs,L,k⟩))⟩
inductive spAgain (K:W.Frag) (vs:List V) (H:Hp) (Q:VK) (E:XK):Prop
 | mk:∀th tr tp,vs= [.ref tp]->TabOk th tr->jq th tr H tp->(∀(p:Addr) (H':Hp),zw H H'->jq th tr H' p->Q (.ref p) H')->spAgain K vs H Q E
theorem z77(h:i < 4):tabs.getD i ""∈tabs:=by
 match i,h with
 | 0,_=>decide +kernel
 | 1,_=>decide +kernel
 | 2,_=>decide +kernel
 | 3,_=>decide +kernel
def zdh{P:List α->Prop}(h:∀a,P [a]):∀us:List α,us.length=1->P us
 | [a],_=>h a
def zbH{P:List α->Prop}(h:∀a b,P [a,b]):∀us:List α,us.length=2->P us
 | a :: l,e=>zdh (P:=λl=>P (a :: l)) (h a) l (Nat.succ.inj e)
def zdm{P:List α->Prop}(h:∀a b c,P [a,b,c]):∀us:List α,us.length=3->P us
 | a :: l,e=>zbH (P:=λl=>P (a :: l)) (h a) l (Nat.succ.inj e)
def ze9{P:List α->Prop}(h:∀a b c d,P [a,b,c,d]):∀us:List α,us.length=4->P us
 | a :: l,e=>zdm (P:=λl=>P (a :: l)) (h a) l (Nat.succ.inj e)
theorem zcF{ys:List V}(h:H p=some (.lst ys))(hl:ys.length=4)(e:∀j,j < 4->∃y,ys[j]? =some y/\TabAt th tr H y (tabs.getD j "")):jq th tr H p:=by
 obtain⟨a,b,c,d,rfl⟩:∃a b c d,ys= [a,b,c,d]:=ze9 (P:=λys=>∃a b c d,ys= [a,b,c,d]) (λ_ _ _ _=>⟨_,_,_,_,rfl⟩) ys hl
 obtain⟨_,i,n⟩:=e 0 (by decide);obtain⟨_,o,q⟩:=e 1 (by decide);obtain⟨_,s,l⟩:=e 2 (by decide);obtain⟨_,r,f⟩:=e 3 (by decide);cases i;cases o;cases s;cases r;exact⟨a,b,c,d,h,n,q,l,f⟩
theorem z5b:FnScope ["_law_tables"] ["_law_tables"] (zi ke):=by walk_at "s"
theorem z55(F:Fun K "_law_again" "_law_again" ke f fd)(T:Txt K mg):FnOk P w K mg base CX0 1 f fd ["_law_tables"] (spAgain K):=by
 refine F.okB z5b (λvs H Q E h=> ?_) (λvs H Q E h=> ?_)
 ·obtain⟨th,tr,tp,rfl,_⟩:=h
  rfl
 obtain⟨th,tr,tp,rfl,TT,h4,fin⟩:=h;obtain⟨vs,S,N,du⟩:=z2x h4;intro ac A outer sh hr;refine⟨_,(zf (zr (jC rfl (CompSc.of (sx:=zi ke) (NX:= ["_law_tables"]) (fr:= []) (ix:= []) rfl rfl (by decide +kernel)) (zR v0) (λ_ _ _ _ _ _=>jg) (λ_ _ _ _ _ _=>(zG (zm (yw (z00 (K:=K) rfl) v0 za (λ_ _=>rfl)) (zO (jk (z2f (K:=K) rfl) rfl T.list qJ (zm (yw (z00 (K:=K) rfl) v0 za (λ_ _=>rfl)) ze)) (z0r (jC rfl (CompSc.of2 (sx:=zi ke) (NX:= ["_law_one"]) (fr:= []) (ix:= []) rfl rfl (by decide +kernel)) (z7E (K:=K) rfl (yw (z00 (K:=K) rfl) v0 za (λ_ _=>rfl))) (λ_ _ _ _ _ _=>jg) (λ_ _ _ _ _ _=>(jk (z2f (K:=K) rfl) rfl T.list qJ (zb v0 ze)))) ze)))))))),?_⟩;generalize hK0:K=K1
 revert K1
 refine jj (by walk_at "cl") ?_;refine !⟨tp,rfl,⟨_,SqL.of S⟩,?_⟩;refine ja (xs:=vs) (λi ys H'=>zw H H'/\ys.length=i/\∀j,j < i->∃y,ys[j]? =some y/\TabAt th tr H' y (tabs.getD j "")) ⟨zw.refl _,rfl,λj z=>absurd z (Nat.not_lt_zero _)⟩ ?_ ?_ ?_
 ·rintro i ys H' hi ⟨b,hl,_⟩;exact⟨SqL.of (b _ _ S),zE (by rw [hl];lia)⟩
 ·rintro i x ys H' hi ⟨b,hl,u⟩;have J:i < 4:=by rw [<-N];exact(we.mp hi).1
  obtain⟨v,hv,p,hp,rp,rs,rfl,t1,t2,t3,Y⟩:=du i J;rw [hi]at hv;cases hv;have X:=z7g TT _ (z77 J);have fK:rs.length<=60:=by rw [<-Y,w9]at X;exact X
  have G:(refs rs).length=rs.length:=w9 _;have Z:=b _ _ t1;refine !(zh Z zH (!(zh Z j8 ⟨hp,!⟨.inl (SqL.of (b _ _ t2)),λl iq=> ?_⟩⟩)));refine zg (upd _ l _) rfl iq λH1 o x1=> ?_
  have s1:=b.trans o;have D:=t3.same s1;refine !(zh (s1 _ _ t1) jz ⟨rp,rfl,⟨_,SqL.of D.1⟩,?_⟩);refine ja (xs:=refs rs) (λj zs q=>zw H1 q/\∃qs:List (Addr×List Int),zs=refs qs/\qs.length=j/\(∀r∈qs,H1 r.1=none/\q r.1=some (.lst (r.2.map V.int)))/\qs.map (·.2)=(rs.take j).map (·.2)) ⟨zw.refl _,[],rfl,rfl,λ_ z=>(nomatch z),rfl⟩ ?_ ?_ ?_
  ·rintro j zs q a ⟨c,qs,rfl,hq,_⟩;rw [G]at a;exact⟨SqL.of (c _ _ D.1),zE (by rw [w9];lia)⟩
  ·rintro j y zs q a ⟨c,qs,rfl,hq,s,t⟩;have C:j < rs.length:=by
    have:=(we.mp a).1
    rwa [G]at this
   rw [jZ C]at a;cases a;refine !⟨_,!⟨.inl (SqL.of (c _ _ (D.2 _ (wu C)).2)),λl2 U=> ?_⟩⟩;have s4:=zB U (.lst (rs[j].2.map V.int));refine⟨c.trans s4,qs ++ [(l2,rs[j].2)],by simp [refs],by rw [wg,hq];rfl,λr m=> ?_,?_⟩
   ·rcases wB.mp m with m | m
    ·exact⟨(s r m).1,s4 _ _ (s r m).2⟩
    ·rw [wx.mp m];exact⟨c.free U,zj⟩
   ·rw [wD,t,wQ,wa C,wD]
    rfl
  ·rintro zs q ⟨c,qs,rfl,hq,s,t⟩ L R;rw [G,qc]at t;refine zg (upd _ L _) rfl R λH4 O x4=> ?_
   refine⟨(zA rfl),λd n=> ?_⟩;refine zg (upd _ d _) rfl n λH5 n5 x5=> ?_
   have M:=c.trans (O.trans n5);have I:=o.trans M;refine⟨b.trans I,by rw [wg,hl];rfl,λj a=> ?_⟩;by_cases nW:j < i
   ·obtain⟨y,B,ty⟩:=u j nW;exact⟨y,by rw [QV (by lia)];exact B,ty.same I⟩
   ·have e:j=i:=by lia
    subst e;refine⟨_,by rw [Qw (by lia),hl,Nat.sub_self];rfl,d,l,L,qs,rfl,x5,M _ _ x1,(yl R O x4 λr m=>(s r m).2).same n5,by rw [t];exact Y⟩
 ·rintro ys H' ⟨b,hl,u⟩ np ai;rw [N]at hl u;refine zg (upd _ np _) rfl ai λH1 o x1=> ?_
  refine fin np H1 (b.trans o) (zcF x1 hl λj a=> ?_);obtain⟨y,B,ty⟩:=u j a;exact⟨y,B,ty.same o⟩
inductive spKept (K:W.Frag) (vs:List V) (H:Hp) (Q:VK) (E:XK):Prop
 | mk:∀th tr hp tp,vs= [.ref hp,.ref tp]->TabOk th tr->jq th tr H hp->jq th tr H tp->Q (.bl true) H->spKept K vs H Q E
theorem zdn(T:TabOk th tr)(h:n∈tabs):(th n).length<=100/\∀r∈tr n,r.length<=100:=by
 have h1:=(jy T (q:= .table n) h).2;exact⟨h1,λr m=>by rw [T.rl n h r m];exact h1⟩
theorem z2Y:FnScope ["_law_handed","_law_tables","_law_k"] ["_law_handed","_law_tables"] (zi z1R):=by walk_at "s"
theorem z5U(F:Fun K "_law_kept" "_law_kept" z1R f fd)(T:Txt K mg)(a:Kn P w K mg base 1 "_law_texts" ["_law_found","_law_due"] (spTexts K))(b:Kn P w K mg base 3 "_law_alike" ["_law_found","_law_due"] (spAlike K)):FnOk P w K mg base CX0 4 f fd ["_law_handed","_law_tables"] (spKept K):=by
 refine F.okB z2Y (λvs H Q E h=> ?_) (λvs H Q E h=> ?_)
 ·obtain⟨th,tr,hp,tp,rfl,_⟩:=h
  rfl
 obtain⟨th,tr,hp,tp,rfl,TT,S,B,q⟩:=h;obtain⟨vs,c,L,D⟩:=z2x S;obtain⟨us,j,o,J⟩:=z2x B;intro ac A outer sh hr;refine⟨_,(zc (zD (cmT z1I (leN T.len (zb v0 ze)) (leN T.len (zb v1 ze)))
   (zf (zr yd))
   zv)
  (zc (foR (yj rfl T.range (zO (leN T.len (zb v1 ze)) ze)) (gnM 2 z2Y)
   (zc (zD (z1k (ym (ji (zP zX rfl T.isinstance q9 (zm (ixL v0 v2) (zb (yb (v:= .ty "tuple") rfl T.tuple Qv rfl) ze))))) (cmT z1I (leN T.len (zm (ixL v0 v2) ze)) za))
    (zf (zr yd))
    zv)
   (zc (zD (ym (ji (zQ a hr.m (zm (ixT (ixL v0 v2) za) (zm (ixT (ixL v1 v2) za) ze)))))
    (zf (zr yd))
    zv)
   (zc (zD (ym (ji (zQ b hr.m (zm (ixT (ixL v0 v2) za) (zm (ixT (ixL v1 v2) za) ze)))))
    (zf (zr yd))
    zv)
   (zf (zD (z1k (ym (ji (zP zX rfl T.isinstance q9 (zm (ixT (ixL v0 v2) za) (zb (yb (v:= .ty "str") rfl T.str Qd rfl) ze))))) (cmT z1I (ixT (ixL v0 v2) za) (ixT (ixL v1 v2) za)))
    (zf (zr yd))
    zv))))))
  (zf (zr yd)))),?_⟩
 generalize hK0:K=K1
 revert K1
 refine jj (by walk_at "cl") ?_;refine !⟨hp,!⟨.inl (SqL.of c),!⟨tp,!⟨.inl (SqL.of j),rfl,!?_⟩⟩⟩⟩;refine ifF (by rw [L,o];simp) ?_;refine !⟨tp,!⟨.inl (SqL.of j),!⟨by lia,by rw [o];decide,kR (lo:=0) (n:=us.length) (λi σ H'=>∃x,σ= [some (.ref hp),some (.ref tp),x]/\H'=H) ⟨none,rfl,rfl⟩ ?_ ?_⟩⟩⟩
 ·rintro i σ H' hi ⟨x,rfl,rfl⟩;have y:i < 4:=by rw [<-o];exact hi
  obtain⟨v,C,p,h1,r1,X,rfl,e,R,G,t⟩:=D i y;obtain⟨u,Z,p',U,Au,Y,rfl,l,M,I,N⟩:=J i y;have d:atI vs (0 + (i:Int))=some (V.ref p):=by rw [w0N];exact zW C
  have s:atI us (0 + (i:Int))=some (V.ref p'):=by rw [w0N];exact zW Z
  have z:=z77 y;obtain⟨wn,wr⟩:=zdn TT z;have O:=z7g TT _ z;refine !(!(zu c d ⟨_,_,_,!⟨TyOf.tup e,jK,!⟨_,(!(!(zu c d ⟨p,!⟨.inr (SqT.of e),rfl,!⟨rfl,rfl⟩⟩⟩))),?_⟩⟩⟩));refine ifF (by rfl) ?_;refine !(!(zu c d (zh e j8 (!(!(zu j s (zh l j8 ⟨h1,U,_,rfl,R,SqL.of M,by lia,!?_⟩)))))));refine ifF (by rfl) ?_;refine !(!(zu c d (zh e jz (!(!(zu j s (zh l jz ⟨r1,Au,X,Y,rfl,G,I,by rw [t,N],by rw [<-t,w9]at O;lia,λr m=>by have:=wr r.2 (by rw [<-t];exact qe.mpr ⟨r,m,rfl⟩);lia,!?_⟩)))))));refine ifF (by rfl) ?_;refine !(!(zu c d (zh e zH ⟨_,_,_,!⟨TyOf.str _,jK,!⟨_,(!(!(zu c d (zh e zH (!(!(zu j s (zh l zH ⟨rfl,!⟨rfl,rfl⟩⟩)))))))),?_⟩⟩⟩)));refine ifF (by simp) ?_;exact !rfl
 ·rintro σ H' ⟨x,rfl,rfl⟩;exact q
inductive spAnswers (K:W.Frag) (vs:List V) (H:Hp) (Q:VK) (E:XK):Prop
 | mk:∀th tr q v hp rp rs,vs= [v,.ref hp,.ref rp]->z1o th tr q v H->H hp=some (.lst ((zd th q).map V.str))->RowsAt H rp rs->rs.map (·.2)=rowsOf th tr q->(zd th q).length<=100->(rowsOf th tr q).length<=60->(∀r∈rowsOf th tr q,r.length<=100)->Q (.bl true) H->spAnswers K vs H Q E
theorem z3N:FnScope ["_law_found","_law_heads","_law_rows"] ["_law_found","_law_heads","_law_rows"] (zi z0z):=by walk_at "s"
theorem z3R(F:Fun K "_law_answers" "_law_answers" z0z f fd)(T:Txt K mg)(a:Kn P w K mg base 1 "_law_texts" ["_law_found","_law_due"] (spTexts K))(b:Kn P w K mg base 3 "_law_alike" ["_law_found","_law_due"] (spAlike K)):FnOk P w K mg base CX0 4 f fd ["_law_found","_law_heads","_law_rows"] (spAnswers K):=by
 refine F.okB z3N (λvs H Q E h=> ?_) (λvs H Q E h=> ?_)
 ·obtain⟨th,tr,q,v,hp,rp,rs,rfl,_⟩:=h
  rfl
 obtain⟨th,tr,q,v,hp,rp,rs,rfl,⟨p,l,t,s,rfl,f1,i,d,c⟩,o,j,n,l1,l2,e,fin⟩:=h;intro ac A outer u hr;refine⟨_,(zc (zD (z1k (ym (ji (zP zX rfl T.isinstance q9 (zb v0 (zb (yb (v:= .ty "tuple") rfl T.tuple Qv rfl) ze))))) (cmT z1I (leN T.len (zb v0 ze)) za))
   (zf (zr yd))
   zv)
  (zf (zr (zem (zQ a hr.m (zm (ixT v0 za) (zb v1 ze))) (zel (zQ b hr.m (zm (ixT v0 za) (zb v2 ze)))))))),?_⟩
 generalize hK0:K=K1
 revert K1
 refine jj (by walk_at "cl") ?_;refine !⟨_,_,_,!⟨TyOf.tup f1,jK,!⟨_,(!⟨p,!⟨.inr (SqT.of f1),rfl,!⟨rfl,rfl⟩⟩⟩),?_⟩⟩⟩;refine ifF (by rfl) ?_;refine !(zh f1 zH (!⟨l,hp,_,rfl,i,SqL.of o,by lia,!?_⟩));refine ifT rfl ?_;exact !(zh f1 j8 (!⟨t,rp,s,rs,rfl,d,j,by rw [c,n],by rw [<-c,w9]at l2;lia,λr m=>by have:=e r.2 (by rw [<-c];exact qe.mpr ⟨r,m,rfl⟩);lia,fin⟩))
theorem z2z(h:∀s∈c.cols,s∈hs):c.ok hs:=by
 have side:∀{a:Side},(∀s∈a.cols,s∈hs)->a.ok hs:=λ{a} h=>by
  cases a with
  | nm x=>exact h x (wx.mpr rfl)
  | nu i=>trivial
 induction c with
 | less a b=>exact⟨side λs m=>h s (wZ _ m),side λs m=>h s (wA _ m)⟩
 | same a b=>exact⟨side λs m=>h s (wZ _ m),side λs m=>h s (wA _ m)⟩
 | no c j=>exact j h
 | an c d e f=>exact⟨e λs m=>h s (wZ _ m),f λs m=>h s (wA _ m)⟩
 | or c d e f=>exact⟨e λs m=>h s (wZ _ m),f λs m=>h s (wA _ m)⟩
theorem z62{gs:List Str}{t:List Int}(h:∀s∈c.cols,r.getD (hs.idxOf s) 0=t.getD (gs.idxOf s) 0):ev hs r c=ev gs t c:=by
 have side:∀{a:Side},(∀s∈a.cols,r.getD (hs.idxOf s) 0=t.getD (gs.idxOf s) 0)->num hs r a=num gs t a:=λ{a} h=>by
  cases a with
  | nm x=>exact h x (wx.mpr rfl)
  | nu i=>rfl
 induction c with
 | less a b=>simp only [ev,side λs m=>h s (wZ _ m),side λs m=>h s (wA _ m)]
 | same a b=>simp only [ev,side λs m=>h s (wZ _ m),side λs m=>h s (wA _ m)]
 | no c j=>simp only [ev,j h]
 | an c d e f=>simp only [ev,e λs m=>h s (wZ _ m),f λs m=>h s (wA _ m)]
 | or c d e f=>simp only [ev,e λs m=>h s (wZ _ m),f λs m=>h s (wA _ m)]
variable{y:List Int}
theorem z8Y(ok:c.ok hq)(a:x.length=hq.length):ev (hq ++ hr) (x ++ y) c=ev hq x c:=
 z62 λs m=>by
  have hs:=z1L ok s m;have hl:=qz.mpr hs;rw [List.idxOf_append,wY hs,wb,wb,QV (by lia)]
theorem z7l(b:∀n∈hq,n∉hr)(ok:c.ok hr)(a:x.length=hq.length):ev (hq ++ hr) (x ++ y) c=ev hr y c:=
 z62 λs m=>by
  have hs:=z1L ok s m;rw [List.idxOf_append,wM λz=>b s z hs,wb,wb,Qw (by lia),a,w0Y]
theorem zd8(ok:c.ok ns):ev ns (ns.map λn=>r.getD (hs.idxOf n) 0) c=ev hs r c:=
 z62 λs m=>by
  have hm:=z1L ok s m;have hl:=qz.mpr hm;rw [wb,wF,wa hl,List.getElem_idxOf]
  rfl
theorem z1V{key:List Int->Int}:∀{L M:List (List Int)},L.Pairwise (λa b=>key a<=key b)->M.Pairwise (λa b=>key a<=key b)->(∀k,L.filter (λr=>decide (key r=k))=M.filter λr=>decide (key r=k))->L=M
 | [],[],_,_,_=>rfl
 | [],b :: M,_,_,h=>by
  have:=h (key b);rw [qV (by simp)]at this;cases this
 | a :: L,[],_,_,h=>by
  have:=h (key a);rw [qV (by simp)]at this;cases this
 | a :: L,b :: M,p,q,h=>by
  have lo:∀{x y:List Int} {N:List (List Int)},(y :: N).Pairwise (λa b=>key a<=key b)->key x < key y->(y :: N).filter (λr=>decide (key r=key x))= []:=λ{x y N} p d=>by
   refine w0V.mpr λr m=> ?_
   rcases wG.mp m with rfl | m
   ·simp;lia
   ·have:=(List.pairwise_cons.mp p).1 r m;simp;lia
  have c:key a=key b:=by
   rcases Int.lt_trichotomy (key a) (key b)with z | z | z
   ·have:=h (key a);rw [lo q z,qV (by simp)]at this;cases this
   ·exact z
   ·have:=h (key b);rw [lo p z,qV (by simp)]at this;cases this
  have e:a=b:=by
   have:=h (key a);rw [qV (by simp),qV (by simp [c])]at this;exact(List.cons.inj this).1
  subst e;rw [z1V (List.pairwise_cons.mp p).2 (List.pairwise_cons.mp q).2 λk=> ?_];have:=h k;by_cases eJ:key a=k
  ·rw [qV (by simp [eJ]),qV (by simp [eJ])]at this;exact(List.cons.inj this).2
  ·rw [w0Q (by simp [eJ]),w0Q (by simp [eJ])]at this;exact this
theorem z2H(s:Nat)(rows:List (List Int)):(yX s rows).Pairwise λa b=>a.getD s 0<=b.getD s 0:=by
 unfold yX;rw [List.pairwise_map];refine(z7Z _ _).imp λ{i j} h=> ?_
 have:=qA h;unfold z2X at this
 lia
theorem z9P(rows:List (List Int)):(List.range rows.length).map (λi=>rows.getD i [])=rows:=by
 apply List.ext_getElem
 ·simp
 ·intro i h1 h2;simp at h1;simp [wb,h1]
theorem z3o(s:Nat)(rows:List (List Int))(k:Int):(yX s rows).filter (λr=>decide (r.getD s 0=k))=rows.filter λr=>decide (r.getD s 0=k):=by
 unfold yX;rw [QK];have e:(z2u (z2X rows s) rows.length).filter ((λr:List Int=>decide (r.getD s 0=k)) ∘ λi=>rows.getD i [])=(List.range rows.length).filter ((λr:List Int=>decide (r.getD s 0=k)) ∘ λi=>rows.getD i []):=by
  refine List.Perm.eq_of_pairwise (le:=λi j=>i<=j) (λa b _ _ h1 h2=>Nat.le_antisymm h1 h2) ?_ ?_ ((z0M _ _).filter _)
  ·have:=((z7Z (z2X rows s) rows.length).filter ((λr:List Int=>decide (r.getD s 0=k)) ∘ λi=>rows.getD i []));refine List.Pairwise.imp_of_mem (λ{i j} hi c h=> ?_) this;have h:=qA h;have hi:(rows.getD i []).getD s 0=k:=qA (Qf.mp hi).2;have c:(rows.getD j []).getD s 0=k:=qA (Qf.mp c).2;unfold z2X at h
   lia
  ·exact((List.pairwise_lt_range (n:=rows.length)).imp λh=>w1o h).filter _
 rw [e,<-QK,z9P]
theorem z6s(s:Nat)(rows:List (List Int))(p:List Int->Bool):(yX s rows).filter p=yX s (rows.filter p):=
 z1V (key:=λr=>r.getD s 0) ((z2H s rows).filter p) (z2H s _) λk=>by
  rw [z3o,w10,w10];have c:∀l:List (List Int),(l.filter λr=>decide (r.getD s 0=k) && p r)=(l.filter λr=>decide (r.getD s 0=k)).filter p:=λl=>by
   rw [w10];exact w0g λ_ _=>Bool.and_comm _ _
  rw [c,c,z3o]
theorem z8k(s:Nat)(rows:List (List Int)):yX s (yX s rows)=yX s rows:=
 z1V (key:=λr=>r.getD s 0) (z2H s _) (z2H s _) λk=>by rw [z3o]
theorem z4O{xs:List (List Int)}{p q:List Int->Bool}(h:∀x∈xs,∀y∈ys,p (x ++ y)=q x):(pairs xs ys).filter p=pairs (xs.filter q) ys:=by
 unfold pairs
 induction xs with
 | nil=>rfl
 | cons x xs b=>
  rw [QS,w0u,b λz hz=>h z (wX _ hz),QK];have e:ys.filter (p ∘ λy=>x ++ y)=ys.filter λ_=>q x:=w0g λy a=>h x qy y a
  rw [e];cases hq:q x with
  | true=>rw [qV hq,QS,List.filter_eq_self.mpr λ_ _=>rfl]
  | false=>rw [w0Q (by simp [hq]),w0V.mpr λ_ _=>by simp];rfl
theorem z3A{xs:List (List Int)}{p q:List Int->Bool}(h:∀x∈xs,∀y∈ys,p (x ++ y)=q y):(pairs xs ys).filter p=pairs xs (ys.filter q):=by
 unfold pairs
 induction xs with
 | nil=>rfl
 | cons x xs b=>
  rw [QS,w0u,b λz hz=>h z (wX _ hz),QK,QS]
  congr 2
  exact w0g λy a=>h x qy y a
noncomputable def yJ(ns hs:List Str):Bool:=ns.all λn=>decide (n∈hs)
theorem yt:yJ ns hs=true↔∀n∈ns,n∈hs:=by simp [yJ]
noncomputable def z0y(th:Str->List Str)(x y:Str)(q r:Qn):Qn:=if x∈zd th q then .join x y q r else .join y x q r
noncomputable def z0W(th:Str->List Str)(c:Cond)(mk:Qn->Qn->Qn)(a:Bool)(q r:Qn):Option Qn:=
 if yJ c.cols (zd th q)=true then some (mk (.pick c q) r)
 else if yJ c.cols (zd th r)=true then some (mk q (.pick c r))
 else match a,c with
  | true,.same (.nm x) (.nm y)=>some (z0y th x y q r)
  | _,_=>none
noncomputable def z9v(th:Str->List Str)(c:Cond):Qn->Option Qn
 | .sort a q=>some (.sort a (.pick c q))
 | .cols ns q=>some (.cols ns (.pick c q))
 | .both q r=>some (.both (.pick c q) (.pick c r))
 | .pair q r=>z0W th c .pair true q r
 | .join a b q r=>z0W th c (.join a b) false q r
 | _=>none
noncomputable def yG(th:Str->List Str)(c:Cond)(q:Qn):Option Qn:=
 match c with
 | .an a b=>some (.pick a (.pick b q))
 | c=>z9v th c q
noncomputable def beneath:Qn->Qn
 | .pick _ q=>beneath q
 | q=>q
noncomputable def z9Z:Cond->Bool
 | .an _ _=>true
 | _=>false
noncomputable def kD(th:Str->List Str):Qn->Option Qn
 | .pick c q=>match q with
  | .pick d r=>if z9Z c=true then yG th c (.pick d r)else if(yG th c (beneath r)).isSome=true then some (.pick d (.pick c r))else none
  | q=>yG th c q
 | .first n q=>match q with
  | .first m r=>some (.first (min n m) r)
  | .cols ns r=>some (.cols ns (.first n r))
  | _=>none
 | .cols ns q=>match q with
  | .cols _ r=>some (.cols ns r)
  | _=>none
 | .sort a q=>match q with
  | .sort b r=>if b=a then some (.sort b r)else none
  | _=>none
 | _=>none
structure Eqv(th:Str->List Str)(tr:Str->List (List Int))(q q':Qn):Prop where
 h:zd th q'=zd th q
 r:rowsOf th tr q'=rowsOf th tr q
 wf:wfQ th q'
 sub:kh th tr q->kh th tr q'
inductive Prt (th:Str->List Str) (c:Cond) (mk:Qn->Qn->Qn) (b:Bool) (q r:Qn):Qn->Prop
 | l:yJ c.cols (zd th q)=true->Prt th c mk b q r (mk (.pick c q) r)
 | r:yJ c.cols (zd th r)=true->Prt th c mk b q r (mk q (.pick c r))
 | j:∀x y:Str,b=true->¬yJ c.cols (zd th q)=true->¬yJ c.cols (zd th r)=true->c= .same (.nm x) (.nm y)->Prt th c mk b q r (z0y th x y q r)
theorem z6k{r:Qn}(e:z0W th c mk b q r=some q'):Prt th c mk b q r q':=by
 unfold z0W at e;split at e
 ·cases e;exact .l ‹_›
 ·split at e
  ·cases e;exact .r ‹_›
  ·split at e <;> cases e
   exact .j _ _ rfl ‹_› ‹_› rfl
theorem z61(e:yG th c q=some q'):(∃a b,c= .an a b/\q'= .pick a (.pick b q))\/z9v th c q=some q':=by
 cases c with
 | an a b=>cases e;exact .inl ⟨_,_,rfl,rfl⟩
 | _=>exact .inr e
inductive Trn (th:Str->List Str):Qn->Qn->Prop
 | s:∀c r q',yG th c r=some q'->Trn th (.pick c r) q'
 | p:∀c d r,(yG th c (beneath r)).isSome=true->Trn th (.pick c (.pick d r)) (.pick d (.pick c r))
 | f:∀n m r,Trn th (.first n (.first m r)) (.first (min n m) r)
 | c:∀n l r,Trn th (.first n (.cols l r)) (.cols l (.first n r))
 | l:∀l m r,Trn th (.cols l (.cols m r)) (.cols l r)
 | o:∀a r,Trn th (.sort a (.sort a r)) (.sort a r)
theorem z69(e:kD th q=some q'):Trn th q q':=by
 cases q with
 | pick c r=>
  cases r with
  | pick d r=>
   unfold kD at e;dsimp only at e;split at e
   ·exact .s _ _ _ e
   ·split at e <;> cases e
    exact .p _ _ _ ‹_›
  | _=>exact .s _ _ _ e
 | sort a r=>
  cases r with
  | sort b r=>
   unfold kD at e;dsimp only at e;split at e <;> cases e
   subst b;exact .o _ _
  | _=>cases e
 | first n r | cols n r=>cases r <;> cases e <;> constructor
 | _=>cases e
theorem zeA(X:List (List Int))(p s:List Int->Bool):(X.filter p).filter s=(X.filter s).filter p:=by
 simp only [w10,Bool.and_comm]
theorem zc8(T:TabOk th tr){r:Qn}(sz:c.size<=20)(j:c.ok (zd th q ++ zd th r))(w:wfQ th (.pair q r))(e:z0W th c .pair true q r=some q'):Eqv th tr (.pick c (.pair q r)) q':=by
 obtain⟨d,l,b,f⟩:=w;have h:=jo T b;rcases z6k e with h1 | h2 | ⟨x,y,_,h1,h2,rfl⟩
 ·have ok:=z2z (yt.mp h1);exact⟨rfl,(z4O λx a y _=>z8Y ok (h x a)).symm,⟨d,l,⟨ok,sz,b⟩,f⟩,λs=>⟨s.1,s.2.1,wP (Qz _ (qh _ _)) s.2.2⟩⟩
 ·have ok:=z2z (yt.mp h2);exact⟨rfl,(z3A λx a y _=>z7l d ok (h x a)).symm,⟨d,l,b,⟨ok,sz,f⟩⟩,λs=>⟨s.1,s.2.1,wP (Qr _ (qh _ _)) s.2.2⟩⟩
 ·have a:=wB.mp (show x∈_ from j.1);have i:=wB.mp (show y∈_ from j.2);simp only [yt,Cond.cols,Side.cols,wB,wx,forall_eq_or_imp,forall_eq]at h1 h2;unfold z0y;by_cases hq:x∈zd th q
  ·rw [wY hq];exact⟨rfl,rfl,⟨hq,i.resolve_left λz=>h1 ⟨hq,z⟩,d,l,b,f⟩,λs=>s⟩
  ·rw [wM hq];have a:=a.resolve_left hq;exact⟨rfl,w0g λz _=>w1e.mpr ⟨Eq.symm,Eq.symm⟩,⟨i.resolve_right λz=>h2 ⟨a,z⟩,a,d,l,b,f⟩,λs=>s⟩
theorem za1(T:TabOk th tr){a b:Str}{r:Qn}(sz:c.size<=20)(p:wfQ th (.join a b q r))(e:z0W th c (.join a b) false q r=some q'):Eqv th tr (.pick c (.join a b q r)) q':=by
 obtain⟨ha,n,i,l,d,o⟩:=p;have j:=jo T d;rcases z6k e with h1 | h2 | ⟨_,_,h⟩
 ·have ok:=z2z (yt.mp h1);exact⟨rfl,((zeA _ _ _).trans (Q6 (List.filter _) (z4O λx f y _=>z8Y ok (j x f)))).symm,⟨ha,n,i,l,⟨ok,sz,d⟩,o⟩,λs=>⟨s.1,s.2.1,wP (Qz _ (qh _ _)) s.2.2⟩⟩
 ·have ok:=z2z (yt.mp h2);exact⟨rfl,((zeA _ _ _).trans (Q6 (List.filter _) (z3A λx f y _=>z7l i ok (j x f)))).symm,⟨ha,n,i,l,d,⟨ok,sz,o⟩⟩,λs=>⟨s.1,s.2.1,wP (Qr _ (qh _ _)) s.2.2⟩⟩
 ·cases h
theorem zaU(T:TabOk th tr)(w:wfQ th (.pick c q))(e:yG th c q=some q'):Eqv th tr (.pick c q) q':=by
 obtain⟨f,sz,d⟩:=w;rcases z61 e with⟨a,b,rfl,rfl⟩ | e
 ·have i:a.size<=20/\b.size<=20:=by simp only [Cond.size]at sz;lia
  exact⟨rfl,w10,⟨f.1,i.1,f.2,i.2,d⟩,λs=>s⟩
 cases q with
 | sort a r=>cases e;exact⟨rfl,(z6s _ _ _).symm,⟨d.1,f,sz,d.2⟩,λs=>s⟩
 | cols ns r=>
  cases e;refine⟨rfl,?_,⟨d.1,d.2.1,z2z λs m=>d.2.1 s (z1L f s m),sz,d.2.2⟩,λs=>s⟩
  show List.map _ (List.filter _ _)=List.filter _ (List.map _ _)
  rw [QK]
  congr 1
  exact w0g λx _=>(zd8 f).symm
 | both r s=>
  cases e;have h:c.ok (zd th r):=f;refine⟨rfl,?_,⟨d.1,⟨h,sz,d.2.1⟩,⟨d.1 ▸ h,sz,d.2.2⟩⟩,λz=>⟨z.1,z.2.1,wP (Nat.add_le_add (qh _ _) (qh _ _)) z.2.2⟩⟩;simp only [rowsOf,zd,w0u,d.1]
 | pair r s=>exact zc8 T sz f d e
 | join a b r s=>exact za1 T sz d e
 | _=>cases e
theorem zaZ(T:TabOk th tr)(w:wfQ th q)(e:kD th q=some q'):Eqv th tr q q':=by
 rcases z69 e with⟨c,r,_,f⟩ | ⟨c,d,r,_⟩ | ⟨n,m,r⟩ | ⟨n,l,r⟩ | ⟨l,m,r⟩ | ⟨a,r⟩
 ·exact zaU T w f
 ·exact⟨rfl,zeA _ _ _,⟨w.2.2.1,w.2.2.2.1,w.1,w.2.1,w.2.2.2.2⟩,λs=>s⟩
 ·have hn:0<=n:=w.1;have hm:0<=m:=w.2.1;refine⟨rfl,?_,⟨by lia,w.2.2⟩,λs=>s⟩
  show List.take _ _=List.take _ (List.take _ _)
  rw [List.take_take]
  congr 1
  lia
 ·exact⟨rfl,QJ,⟨w.2.1,w.2.2.1,w.1,w.2.2.2⟩,λs=>s⟩
 ·refine⟨rfl,?_,⟨w.1,λn m=>w.2.2.2.1 n (w.2.1 n m),w.2.2.2.2⟩,λs=>s⟩
  show List.map _ _=List.map _ (List.map _ _)
  rw [Qe];refine Qq λx _=>Qq λn hn=> ?_
  have hm:n∈m:=w.2.1 n hn;have hl:=qz.mpr hm
  show _=(m.map _).getD (m.idxOf n) 0
  rw [wb (l:=m.map _),wF,wa hl,List.getElem_idxOf]
  rfl
 ·exact⟨rfl,(z8k _ _).symm,w.2,λs=>s⟩
noncomputable def mu(th:Str->List Str):Qn->Nat
 | .table _=>1
 | .pick c q=>4 ^ c.size * mu th q + (if(yG th c (beneath q)).isSome=true then 0 else 1)
 | .pair q r | .join _ _ q r | .both q r=>mu th q + mu th r + 1
 | .first _ q=>2 * mu th q
 | .cols _ q | .group _ _ _ _ q | .sort _ q=>mu th q + 1
theorem z1e(c:Cond):4<=4 ^ c.size:=Nat.pow_le_pow_right (n:=4) (i:=1) (by decide) c.size_pos
theorem z6e(q:Qn):1<=mu th q:=by
 induction q
 case' pick c q h=>have:1 * 1<=4 ^ c.size * mu th q:=w1c (wP (by decide) (z1e c)) h
 all_goals
  simp only [mu]
  lia
theorem yC(c:Cond)(q:Qn):mu th (.pick c q)<=4 ^ c.size * mu th q + 1:=by
 simp only [mu];split <;> lia
theorem z4x(c:Cond)(q:Qn):4 ^ c.size * mu th q<=mu th (.pick c q):=by
 simp only [mu]
 lia
theorem z8V{r:Qn}(hm:∀x y,mu th (mk x y)=mu th x + mu th y + 1)(e:z0W th c mk b q r=some q'):mu th q' < 4 ^ c.size * (mu th q + mu th r + 1):=by
 have a:=z1e c;have h1:=z6e (th:=th) q;have h2:=z6e (th:=th) r;have h:4 * mu th q<=4 ^ c.size * mu th q:=Qz _ a;have d:4 * mu th r<=4 ^ c.size * mu th r:=Qz _ a;rw [QT,QT,w1C];have f:=yC (th:=th) c q;have p2:=yC (th:=th) c r;rcases z6k e with _ | _ | ⟨x,y⟩
 ·rw [hm];lia
 ·rw [hm];lia
 ·unfold z0y;split <;> simp only [mu] <;> lia
theorem zdt(e:yG th c q=some q'):mu th q' < 4 ^ c.size * mu th q:=by
 have j:=z1e c;rcases z61 e with⟨a,b,rfl,rfl⟩ | e
 ·have h1:=yC (th:=th) a (.pick b q);have h2:=yC (th:=th) b q;have i:=z1e a;have kb:=z1e b;have hq:=z6e (th:=th) q;have f:4 ^ (Cond.an a b).size=4 * (4 ^ a.size * 4 ^ b.size):=by
   show 4 ^ (a.size + b.size + 1)=_
   rw [Nat.pow_succ,Nat.pow_add,Nat.mul_comm]
  rw [f];have d:4 ^ a.size * mu th (.pick b q)<=4 ^ a.size * (4 ^ b.size * mu th q + 1):=Qr _ h2;rw [QT,w1C,<-Nat.mul_assoc]at d;have h:4 ^ a.size * 1<=4 ^ a.size * 4 ^ b.size * mu th q:=by
   rw [Nat.mul_assoc];exact Qr _ (w1c (show 1<=_ by lia) hq)
  rw [Nat.mul_assoc 4]
  lia
 cases q with
 | pair r s=>exact z8V (mk:= .pair) (b:=true) (λ_ _=>rfl) e
 | join a b r s=>exact z8V (mk:= .join a b) (b:=false) (λ_ _=>rfl) e
 | both r s=>
  cases e;have h1:=yC (th:=th) c r;have h2:=yC (th:=th) c s
  show mu th (.pick c r) + mu th (.pick c s) + 1 < 4 ^ c.size * (mu th r + mu th s + 1)
  rw [QT,QT,w1C]
  lia
 | sort _ r | cols _ r=>
  cases e;have:=yC (th:=th) c r
  show mu th (.pick c r) + 1 < 4 ^ c.size * (mu th r + 1)
  rw [QT,w1C]
  lia
 | _=>cases e
def z6g(e:yG th c q=some q'):mu th q' < mu th (.pick c q):=wJ (zdt e) (z4x c q)
def nf(th:Str->List Str)(q:Qn):Prop:=∀r∈post q,kD th r=none
theorem z4o(h:∀c r,q≠ .pick c r):beneath q=q:=by
 cases q with
 | pick c q=>exact absurd rfl (h c q)
 | _=>rfl
theorem z9H(h:z9Z c=true):(yG th c q).isSome=true:=by
 cases c <;> first | rfl | cases h
theorem zb6{d:Cond}{r:Qn}(h:kD th (.pick d r)=none):(yG th d (beneath r)).isSome=false:=by
 cases r with
 | pick e s=>
  unfold kD at h;dsimp only at h;split at h
  ·next a=>
   have:=z9H (th:=th) (q:= .pick e s) a;rw [h]at this;cases this
  ·split at h
   ·cases h
   ·exact Qu.mpr ‹_›
 | _=>
  have h:yG th d _=none:=h;rw [z4o (by intro c r e;cases e),h]
  rfl
theorem zcy(b:∀r∈kids q,kD th r=none)(e:kD th q=some q'):mu th q' < mu th q:=by
 rcases z69 e with⟨c,r,_,f⟩ | ⟨c,d,r,h2⟩ | ⟨n,m,r⟩ | ⟨n,l,r⟩ | ⟨l,m,r⟩ | ⟨a,r⟩
 ·exact z6g f
 ·have st:=zb6 (b _ (wx.mpr rfl));have h:=z1e c;simp only [mu,beneath,h2,st];simp;rw [Nat.mul_left_comm,QT]
  lia
 all_goals
  have:=z6e (th:=th) r;simp only [mu]
  lia
noncomputable def j9:Qn->Nat->Qn->Qn
 | .table n,_,_=> .table n
 | .pick c _,_,k=> .pick c k
 | .cols ns _,_,k=> .cols ns k
 | .pair q r,i,k=>if i=0 then .pair k r else .pair q k
 | .join a b q r,i,k=>if i=0 then .join a b k r else .join a b q k
 | .both q r,i,k=>if i=0 then .both k r else .both q k
 | .first n _,_,k=> .first n k
 | .group a b n s _,_,k=> .group a b n s k
 | .sort a _,_,k=> .sort a k
theorem zed{p k:Qn}(a:(kids p)[i]? =some k)(h:mu th k' < mu th k):mu th (j9 p i k') < mu th p:=by
 have d:∀c:Cond,mu th (.pick c k') < mu th (.pick c k):=λc=>by
  have e:=z1e c;have h1:=yC (th:=th) c k';have h2:=z4x (th:=th) c k;have b:4 ^ c.size * (mu th k' + 1)<=4 ^ c.size * mu th k:=Qr _ h;rw [QT,w1C]at b
  lia
 cases p <;> rcases i with _ | _ | i <;> cases a <;> first | exact d _ | (simp only [j9,mu,w1K,Nat.zero_add,Nat.one_ne_zero,w1d];lia)
theorem set_same{p k:Qn}(a:(kids p)[i]? =some k):j9 p i k=p:=by
 cases p <;> rcases i with _ | _ | i <;> cases a <;> rfl
theorem z1O{p k:Qn}(h:i < (kids p).length):kids (j9 p i k)=(kids p).set i k:=by
 cases p <;> rcases i with _ | _ | i <;> first | rfl | (simp only [kids,wN,Qo]at h;lia)
theorem set_set{p k l:Qn}(h:i < (kids p).length):j9 (j9 p i k) i l=j9 p i l:=by
 cases p <;> rcases i with _ | _ | i <;> rfl
theorem z4g{p k:Qn}(h:i < (kids p).length):(kids (j9 p i k))[i]? =some k:=by
 rw [z1O h,w0T h]
theorem Eqv.trans{r s:Qn}(a:Eqv th tr q r)(b:Eqv th tr r s):Eqv th tr q s:=⟨b.h.trans a.h,b.r.trans a.r,b.wf,λz=>b.sub (a.sub z)⟩
def Eqv.refl(w:wfQ th q):Eqv th tr q q:=⟨rfl,rfl,w,λz=>z⟩
theorem z5w{p k l:Qn}(e:zd th k=zd th l):zd th (j9 p i k)=zd th (j9 p i l):=by
 cases p <;> rcases i with _ | i <;> simp [j9,zd,e]
theorem zcZ{p k:Qn}(w:wfQ th p)(b:(kids p)[i]? =some k)(E:Eqv th tr k k'):Eqv th tr p (j9 p i k'):=by
 obtain⟨a,c,d,es⟩:=E;cases p <;> rcases i with _ | _ | i <;> cases b <;> simp only [wfQ]at w <;> refine⟨by simp [j9,zd,a],by simp [j9,rowsOf,a,c],by simp_all [j9,wfQ],by simp_all [j9,kh]⟩
theorem zf8(e:kD th q=none)(h:∀k∈kids q,nf th k):nf th q:=λr m=>by
 rw [z1b]at m;rcases wB.mp m with m | m
 ·obtain⟨k,a,m⟩:=List.mem_flatMap.mp m;exact h k a r m
 ·rw [wx.mp m];exact e
noncomputable def y0:List (Qn×Nat)->Qn->Qn
 | [],q=>q
 | (p,i) :: c,q=>y0 c (j9 p i q)
def kE(th:Str->List Str):List (Qn×Nat)->Qn->Prop
 | [],_=>True
 | (p,i) :: c,q=>i < (kids p).length/\zd th (j9 p i q)=zd th p/\kE th c (j9 p i q)
def z5I:∀{c:List (Qn×Nat)} {q q':Qn},zd th q'=zd th q->kE th c q->kE th c q'
 | [],_,_,_,_=>trivial
 | (p,i) :: c,_,_,e,h=>⟨h.1,(z5w e).trans h.2.1,z5I (z5w e) h.2.2⟩
theorem zbT{c:List (Qn×Nat)}{p k:Qn}(a:(kids p)[i]? =some k)(h:kE th c p):kE th ((p,i) :: c) k:=
 ⟨(we.mp a).1,by rw [set_same a],by rw [set_same a];exact h⟩
theorem zaf{c:List (Qn×Nat)}{p k:Qn}(a:(kids p)[i]? =some k):y0 ((p,i) :: c) k=y0 c p:=by
 show y0 c (j9 p i k)=_
 rw [set_same a]
def z41:∀{c:List (Qn×Nat)} {q:Qn},kE th c q->wfQ th (y0 c q)->wfQ th q
 | [],_,_,w=>w
 | (p,i) :: c,q,h,w=>z6B (z41 h.2.2 w) q (qL (z4g h.1))
theorem z74:∀{c:List (Qn×Nat)} {q q':Qn},kE th c q->wfQ th (y0 c q)->Eqv th tr q q'->Eqv th tr (y0 c q) (y0 c q')
 | [],_,_,_,_,E=>E
 | (p,i) :: c,q,q',h,w,E=>by
  have a:=zcZ (z41 h.2.2 w) (z4g h.1) E;rw [set_set h.1]at a;exact z74 (c:=c) h.2.2 w a
theorem z8O:∀{c:List (Qn×Nat)} {q q':Qn},kE th c q->mu th q' < mu th q->mu th (y0 c q') < mu th (y0 c q)
 | [],_,_,_,e=>e
 | (p,i) :: c,q,q',h,e=>by
  have a:=zed (z4g (k:=q) h.1) e;rw [set_set h.1]at a;exact z8O (c:=c) h.2.2 a
theorem z75(T:TabOk th tr){c:List (Qn×Nat)}(h:kE th c q)(w:wfQ th (y0 c q))(a:∀k∈kids q,nf th k)(e:kD th q=some q'):
  Eqv th tr (y0 c q) (y0 c q')/\mu th (y0 c q') < mu th (y0 c q)/\kE th c q':=by
 have E:=zaZ T (z41 h w) e;exact⟨z74 h w E,z8O h (zcy (λr m=>a r m r (zak r)) e),z5I E.h h⟩
def kN(H:Hp):Qn->List V->Prop
 | .table n,xs=>xs= [.str "table",.str n]
 | .pick c _,xs=>∃x,xs= [.str "pick",x]/\zC H c x
 | .cols ns _,xs=>∃x,xs= [.str "cols",.ref x]/\H x=some (.tup (ns.map V.str))
 | .pair _ _,xs=>xs= [.str "pair"]
 | .join a b _ _,xs=>xs= [.str "join",.str a,.str b]
 | .both _ _,xs=>xs= [.str "both"]
 | .first n _,xs=>xs= [.str "first",.int n]
 | .group a b n s _,xs=>xs= [.str "group",.str a,.str b,.str n,.str s]
 | .sort a _,xs=>xs= [.str "sort",.str a]
noncomputable def jD(ah hd wl:Addr)(qv:V)(b:Bool):List (Str×V):= [("ahead",.ref ah),("heads",.ref hd),("within",.ref wl),("question",qv),("settled",.bl b)]
structure NodeAt(th:Str->List Str)(C:Addr)(H:Hp)(q:Qn)(a:Addr)(ws:List V)(ah hd wl dx:Addr)(qv:V)(b:Bool)(xs:List V):Prop where
 me:H a=some (.ins C dx (jD ah hd wl qv b))
 ahd:H ah=some (.tup xs)
 ahx:kN H q xs
 hds:H hd=some (.lst ((zd th q).map V.str))
 wit:H wl=some (.lst ws)
 qst:QAt H q qv
 set:b=true->nf th q
def Node(th:Str->List Str)(C:Addr)(H:Hp)(q:Qn)(v:V)(ws:List V):Prop:=∃a ah hd wl dx qv b xs,v= .ref a/\NodeAt th C H q a ws ah hd wl dx qv b xs
def jP(th:Str->List Str)(C:Addr)(H:Hp):Qn->V->Prop
 | .table n,v=>Node th C H (.table n) v []
 | .pick c q,v=>∃w,Node th C H (.pick c q) v [w]/\jP th C H q w
 | .cols ns q,v=>∃w,Node th C H (.cols ns q) v [w]/\jP th C H q w
 | .pair q r,v=>∃w u,Node th C H (.pair q r) v [w,u]/\jP th C H q w/\jP th C H r u
 | .join a b q r,v=>∃w u,Node th C H (.join a b q r) v [w,u]/\jP th C H q w/\jP th C H r u
 | .both q r,v=>∃w u,Node th C H (.both q r) v [w,u]/\jP th C H q w/\jP th C H r u
 | .first n q,v=>∃w,Node th C H (.first n q) v [w]/\jP th C H q w
 | .group a b n s q,v=>∃w,Node th C H (.group a b n s q) v [w]/\jP th C H q w
 | .sort a q,v=>∃w,Node th C H (.sort a q) v [w]/\jP th C H q w
def jQ(th:Str->List Str)(C:Addr)(H:Hp):List Qn->List V->Prop
 | [],vs=>vs= []
 | q :: qs,vs=>∃v ws,vs=v :: ws/\jP th C H q v/\jQ th C H qs ws
theorem zV{v:V}:jP th C H q v↔∃ws,Node th C H q v ws/\jQ th C H (kids q) ws:=by
 have one:∀{q r:Qn},kids q= [r]->((∃w,Node th C H q v [w]/\jP th C H r w)↔∃ws,Node th C H q v ws/\jQ th C H (kids q) ws):=λ{q r} e=>by
  rw [e];constructor
  ·rintro⟨w,h1,h2⟩;exact⟨[w],h1,w,[],rfl,h2,rfl⟩
  ·rintro⟨ws,h1,w,us,rfl,h2,rfl⟩;exact⟨w,h1,h2⟩
 have two:∀{q r t:Qn},kids q= [r,t]->((∃w u,Node th C H q v [w,u]/\jP th C H r w/\jP th C H t u)↔∃ws,Node th C H q v ws/\jQ th C H (kids q) ws):=λ{q r t} e=>by
  rw [e];constructor
  ·rintro⟨w,u,h1,h2,d⟩;exact⟨[w,u],h1,w,[u],rfl,h2,u,[],rfl,d,rfl⟩
  ·rintro⟨ws,h1,w,us,rfl,h2,u,vs,rfl,d,rfl⟩;exact⟨w,u,h1,h2,d⟩
 cases q with
 | table n=>
  constructor
  ·intro h;exact⟨[],h,rfl⟩
  ·rintro⟨ws,h,rfl⟩;exact h
 | pick c q=>exact one rfl
 | cols ns q=>exact one rfl
 | first n q=>exact one rfl
 | group a b n s q=>exact one rfl
 | sort a q=>exact one rfl
 | pair q r=>exact two rfl
 | join a b q r=>exact two rfl
 | both q r=>exact two rfl
theorem jQ.len:∀{qs:List Qn} {vs:List V},jQ th C H qs vs->vs.length=qs.length
 | [],_,h=>by rw [show _= []from h];rfl
 | _ :: qs,_,⟨v,ws,e,_,h⟩=>by rw [e,wN,wN,h.len]
theorem jQ.at:∀{qs:List Qn} {vs:List V} {i:Nat} {q:Qn},jQ th C H qs vs->qs[i]? =some q->∃v,vs[i]? =some v/\jP th C H q v
 | q :: qs,_,0,_,⟨v,us,a,h1,h2⟩,e=>by cases e;exact⟨v,by rw [a];rfl,h1⟩
 | q :: qs,_,i + 1,_,⟨v,us,a,h1,h2⟩,e=>by
  obtain⟨u,b,z⟩:=h2.at (i:=i) (by simpa using e);exact⟨u,by rw [a];simpa using b,z⟩
theorem jQ.set:∀{qs:List Qn} {vs:List V} {i:Nat} {q:Qn} {v:V},jQ th C H qs vs->jP th C H q v->jQ th C H (qs.set i q) (vs.set i v)
 | [],_,_,_,_,h,_=>by rw [show _= []from h];rfl
 | r :: qs,_,0,_,v,⟨u,us,a,h1,h2⟩,h=>by subst a;exact⟨v,us,rfl,h,h2⟩
 | r :: qs,_,i + 1,_,v,⟨u,us,a,h1,h2⟩,h=>by subst a;exact⟨u,us.set i v,rfl,h1,h2.set h⟩
structure Ev(th:Str->List Str)(C:Addr)(H H':Hp):Prop where
 t:∀b o,H b=some o->(∀ps,o≠ .tbl ps)->(∀D dx fs,o≠ .ins D dx fs)->H' b=some o
 n:∀a dx ah hd wl qv b,H a=some (.ins C dx (jD ah hd wl qv b))->∃b',H' a=some (.ins C dx (jD ah hd wl qv b'))/\(b'=b\/(b'=true/\∀q ws xs,NodeAt th C H q a ws ah hd wl dx qv b xs->nf th q))
theorem Ev.tup{b:Addr}{xs:List V}(e:Ev th C H H')(h:H b=some (.tup xs)):H' b=some (.tup xs):=e.t b _ h (λ_ z=>by cases z) λ_ _ _ z=>by cases z
theorem Ev.lst{b:Addr}{xs:List V}(e:Ev th C H H')(h:H b=some (.lst xs)):H' b=some (.lst xs):=e.t b _ h (λ_ z=>by cases z) λ_ _ _ z=>by cases z
theorem Ev.of(h:Nt H H'):Ev th C H H':=⟨λb o e n _=>h b o e n,λa dx ah hd wl qv b e=>⟨b,h a _ e (λ_ z=>by cases z),.inl rfl⟩⟩
theorem kN.mono(t:∀b xs,H b=some (.tup xs)->H' b=some (.tup xs))(h:kN H q xs):kN H' q xs:=by
 cases q with
 | pick c q=>obtain⟨x,e,h⟩:=h;exact⟨x,e,h.mono t⟩
 | cols ns q=>obtain⟨x,e,h⟩:=h;exact⟨x,e,t _ _ h⟩
 | _=>exact h
theorem Node.ev{v:V}(e:Ev th C H H')(h:Node th C H q v ws):Node th C H' q v ws:=by
 obtain⟨a,ah,hd,wl,dx,qv,b,xs,rfl,h⟩:=h;obtain⟨b',h1,h2⟩:=e.n a dx ah hd wl qv b h.me;have c:∀b xs,H b=some (.tup xs)->H' b=some (.tup xs):=λb xs z=>e.tup z
 refine⟨a,ah,hd,wl,dx,qv,b',xs,rfl,h1,e.tup h.ahd,h.ahx.mono c,e.lst h.hds,e.lst h.wit,h.qst.mono c,λz=> ?_⟩;rcases h2 with rfl | ⟨_,h2⟩
 ·exact h.set z
 ·exact h2 q ws xs h
theorem jP.ev(e:Ev th C H H'):∀{q:Qn} {v:V},jP th C H q v->jP th C H' q v
 | .table n,_,h=>Node.ev e h
 | .pick c q,_,⟨w,h1,h2⟩=>⟨w,h1.ev e,h2.ev e⟩
 | .cols ns q,_,⟨w,h1,h2⟩=>⟨w,h1.ev e,h2.ev e⟩
 | .pair q r,_,⟨w,u,h1,h2,d⟩=>⟨w,u,h1.ev e,h2.ev e,d.ev e⟩
 | .join a b q r,_,⟨w,u,h1,h2,d⟩=>⟨w,u,h1.ev e,h2.ev e,d.ev e⟩
 | .both q r,_,⟨w,u,h1,h2,d⟩=>⟨w,u,h1.ev e,h2.ev e,d.ev e⟩
 | .first n q,_,⟨w,h1,h2⟩=>⟨w,h1.ev e,h2.ev e⟩
 | .group a b n s q,_,⟨w,h1,h2⟩=>⟨w,h1.ev e,h2.ev e⟩
 | .sort a q,_,⟨w,h1,h2⟩=>⟨w,h1.ev e,h2.ev e⟩
theorem jQ.ev(e:Ev th C H H'):∀{qs:List Qn} {vs:List V},jQ th C H qs vs->jQ th C H' qs vs
 | [],_,h=>h
 | _ :: _,_,⟨v,ws,a,h1,h2⟩=>⟨v,ws,a,h1.ev e,h2.ev e⟩
theorem ze4{kv:List V}(h:kN H q xs)(f:yr H (kids q) kv)(hp:H p=some (.tup (xs ++ kv))):QAt H q (.ref p):=by
 have one:∀{r:Qn},yr H [r] kv->∃y,kv= [y]/\QAt H r y:=λ⟨v,ws,e,h,z⟩=>⟨v,by rw [e,show ws= []from z],h⟩
 have two:∀{r t:Qn},yr H [r,t] kv->∃x y,kv= [x,y]/\QAt H r x/\QAt H t y:=λ⟨v,ws,e,h,u,us,j,h2,z⟩=>⟨v,u,by rw [e,j,show us= []from z],h,h2⟩
 cases q with
 | table n=>
  rw [show kv= []from f,show xs=_ from h]at hp;exact⟨p,rfl,hp⟩
 | pick c q=>
  obtain⟨y,rfl,d⟩:=one f;obtain⟨x,rfl,i⟩:=h;exact⟨p,x,y,rfl,hp,i,d⟩
 | cols ns q=>
  obtain⟨y,rfl,d⟩:=one f;obtain⟨x,rfl,i⟩:=h;exact⟨p,x,y,rfl,hp,i,d⟩
 | first n q=>
  obtain⟨y,rfl,d⟩:=one f;rw [show xs=_ from h]at hp;exact⟨p,y,rfl,hp,d⟩
 | group a b n s q=>
  obtain⟨y,rfl,d⟩:=one f;rw [show xs=_ from h]at hp;exact⟨p,y,rfl,hp,d⟩
 | sort a q=>
  obtain⟨y,rfl,d⟩:=one f;rw [show xs=_ from h]at hp;exact⟨p,y,rfl,hp,d⟩
 | pair q r=>
  obtain⟨x,y,rfl,i,d⟩:=two f;rw [show xs=_ from h]at hp;exact⟨p,x,y,rfl,hp,i,d⟩
 | join a b q r=>
  obtain⟨x,y,rfl,i,d⟩:=two f;rw [show xs=_ from h]at hp;exact⟨p,x,y,rfl,hp,i,d⟩
 | both q r=>
  obtain⟨x,y,rfl,i,d⟩:=two f;rw [show xs=_ from h]at hp;exact⟨p,x,y,rfl,hp,i,d⟩
noncomputable def z5z(st:Stmt)(j:Nat):Stmt:=match st with
 | .ClassDef _ _ _ body _ _ _ _ _ _ _=>body.getD j (.Pass ⟨0,0,0,0⟩)
 | _=> .Pass ⟨0,0,0,0⟩
noncomputable abbrev z0l:Stmt:=z5z (top 14) 0
noncomputable abbrev z01:Stmt:=z5z (top 53) 0
noncomputable abbrev yV:Stmt:=z5z (top 53) 1
noncomputable abbrev kG:Stmt:=z5z (top 53) 2
noncomputable abbrev yP:Stmt:=z5z (top 53) 3
noncomputable abbrev kf:Stmt:=z5z (top 53) 4
structure PC(K:W.Frag)(C:Addr):Prop where
 cls:Cls K C
 ah:NoAttr K C "ahead"
 hd:NoAttr K C "heads"
 wi:NoAttr K C "within"
 qu:NoAttr K C "question"
 se:NoAttr K C "settled"
theorem zeR{v:V}:yN "ahead" v []=([("ahead",v)]:List (Str×V)):=rfl
theorem put2{v x:V}:yN "heads" v ([("ahead",x)]:List (Str×V))=([("ahead",x),("heads",v)]:List (Str×V)):=by simp [yN,show("ahead":Str)≠"heads" by decide +kernel]
theorem put3{v x y:V}:yN "within" v ([("ahead",x),("heads",y)]:List (Str×V))=([("ahead",x),("heads",y),("within",v)]:List (Str×V)):=by simp [yN,show("ahead":Str)≠"within" by decide +kernel,show("heads":Str)≠"within" by decide +kernel]
theorem zfk{v x y z:V}:yN "question" v ([("ahead",x),("heads",y),("within",z)]:List (Str×V))=([("ahead",x),("heads",y),("within",z),("question",v)]:List (Str×V)):=by
 simp [yN,show("ahead":Str)≠"question" by decide +kernel,show("heads":Str)≠"question" by decide +kernel,show("within":Str)≠"question" by decide +kernel]
theorem zfG{v x y z:V}:yN "settled" v ([("ahead",x),("heads",y),("within",z),("question",u)]:List (Str×V))=([("ahead",x),("heads",y),("within",z),("question",u),("settled",v)]:List (Str×V)):=by
 simp [yN,show("ahead":Str)≠"settled" by decide +kernel,show("heads":Str)≠"settled" by decide +kernel,show("within":Str)≠"settled" by decide +kernel,show("question":Str)≠"settled" by decide +kernel]
theorem zfE{hd:Addr}:yN "settled" (.bl true) (jD ah hd wl qv b)=jD ah hd wl qv true:=by
 simp [yN,jD,show("ahead":Str)≠"settled" by decide +kernel,show("heads":Str)≠"settled" by decide +kernel,show("within":Str)≠"settled" by decide +kernel,show("question":Str)≠"settled" by decide +kernel]
def zcr{hd:Addr}:(jD ah hd wl qv b).lookup ("ahead":Str)=some (V.ref ah):=rfl
theorem zcq{hd:Addr}:(jD ah hd wl qv b).lookup ("heads":Str)=some (V.ref hd):=by rfl
theorem zd7{hd:Addr}:(jD ah hd wl qv b).lookup ("within":Str)=some (V.ref wl):=by rfl
theorem z9b{hd:Addr}:(jD ah hd wl qv b).lookup ("question":Str)=some qv:=by rfl
theorem zcB{hd:Addr}:(jD ah hd wl qv b).lookup ("settled":Str)=some (V.bl b):=by rfl
def yH{a hd:Addr}(d:PC K C)(h:H a=some (.ins C dx (jD ah hd wl qv b)))(q:Q (.ref ah)):∃a' c aj fs v,V.ref a= .ref a'/\H a'=some (.ins c aj fs)/\Cls K c/\NoAttr K c "ahead"/\fs.lookup ("ahead":Str)=some v/\Q v:=⟨a,C,dx,_,_,rfl,h,d.cls,d.ah,zcr,q⟩
def z0K{a hd:Addr}(d:PC K C)(h:H a=some (.ins C dx (jD ah hd wl qv b)))(q:Q (.ref hd)):∃a' c aj fs v,V.ref a= .ref a'/\H a'=some (.ins c aj fs)/\Cls K c/\NoAttr K c "heads"/\fs.lookup ("heads":Str)=some v/\Q v:=⟨a,C,dx,_,_,rfl,h,d.cls,d.hd,zcq,q⟩
def yY{a hd:Addr}(d:PC K C)(h:H a=some (.ins C dx (jD ah hd wl qv b)))(q:Q (.ref wl)):∃a' c aj fs v,V.ref a= .ref a'/\H a'=some (.ins c aj fs)/\Cls K c/\NoAttr K c "within"/\fs.lookup ("within":Str)=some v/\Q v:=⟨a,C,dx,_,_,rfl,h,d.cls,d.wi,zd7,q⟩
def zdE{a hd:Addr}(d:PC K C)(h:H a=some (.ins C dx (jD ah hd wl qv b)))(q:Q (qv)):∃a' c aj fs v,V.ref a= .ref a'/\H a'=some (.ins c aj fs)/\Cls K c/\NoAttr K c "question"/\fs.lookup ("question":Str)=some v/\Q v:=⟨a,C,dx,_,_,rfl,h,d.cls,d.qu,z9b,q⟩
def zaO{a hd:Addr}(d:PC K C)(h:H a=some (.ins C dx (jD ah hd wl qv b)))(q:Q (.bl b)):∃a' c aj fs v,V.ref a= .ref a'/\H a'=some (.ins c aj fs)/\Cls K c/\NoAttr K c "settled"/\fs.lookup ("settled":Str)=some v/\Q v:=⟨a,C,dx,_,_,rfl,h,d.cls,d.se,zcB,q⟩
inductive spPInit (K:W.Frag) (C:Addr) (vs:List V) (H:Hp) (Q:VK) (E:XK):Prop
 | mk:∀th q x dx ah hd wl xs ws,vs= [.ref x,.ref ah,.ref hd,.ref wl]->H x=some (.ins C dx [])->H ah=some (.tup xs)->kN H q xs->H wl=some (.lst ws)->jQ th C H (kids q) ws->(∀(qv:V) (H':Hp),(∀b o,b≠x->H b=some o->H' b=some o)->H' x=some (.ins C dx (jD ah hd wl qv false))->QAt H' q qv->Q .non H')->spPInit K C vs H Q E
theorem z4z(h:kN H q xs):xs≠ []/\xs.length<=5:=by
 cases q with
 | pick c q=>obtain⟨x,e,h⟩:=h;rw [e];simp
 | cols ns q=>obtain⟨x,e,h⟩:=h;rw [e];simp
 | _=>rw [show xs=_ from h];simp
theorem z4W:FnScope ["self","ahead","heads","within"] ["self","ahead","heads","within"] (zi z0l):=by walk_at "s"
theorem z58(F:Fun K "__init__" "Place.__init__" z0l f fd)(T:Txt K mg)(c:PC K C):FnOk P w K mg base CX0 1 f fd ["self","ahead","heads","within"] (spPInit K C):=by
 refine F.okB z4W (λvs H Q E h=> ?_) (λvs H Q E h=> ?_)
 ·obtain⟨th,q,x,dx,ah,hd,wl,xs,ws,rfl,_⟩:=h
  rfl
 obtain⟨th,q,x,dx,ah,hd,wl,xs,ws,rfl,Y,ha,cg,hw,cf,fin⟩:=h;intro ac A outer sh hr;refine⟨_,(zc (z0w v0 v1 rfl)
  (zc (z0w v0 v2 rfl)
  (zc (z0w v0 v3 rfl)
  (zc (z0w v0 (zp z8S v1 (jk z0T rfl T.tuple Qv (z0r (jC rfl (CompSc.of (sx:=zi z0l) (NX:= ["self","ahead","heads","within"]) (fr:= []) (ix:= []) rfl rfl (by decide +kernel)) (zR v3) (λ_ _ _ _ _ _=>jg) (λ_ _ _ _ _ _=>(z42 (K:=K) rfl v0 rfl))) ze))) rfl)
  (zf (z0w v0 yd rfl)))))),?_⟩
 generalize hK0:K=K1;generalize hK1:C=C1
 revert C1
 revert K1
 refine z0f (by walk_at "cl") ?_;refine !(!⟨x,C,dx,!⟨Y,c.cls,c.ah,by show 0 < 1000;decide,?_⟩⟩);refine !(!⟨x,C,dx,!⟨zj,c.cls,c.hd,by show 1 < 1000;decide,?_⟩⟩);refine !(!⟨x,C,dx,!⟨zj,c.cls,c.wi,by rw [zeR,put2];show 2 < 1000;decide,?_⟩⟩);rw [zeR,put2,put3];generalize hH3:upd (upd (upd H x _) x _) x _=H3;have U:∀b o,b≠x->H b=some o->H3 b=some o:=λb o d e=>by
  rw [<-hH3,zl d,zl d,zl d];exact e
 have x3:H3 x=some (.ins C dx [("ahead",.ref ah),("heads",.ref hd),("within",.ref wl)]):=by rw [<-hH3,zj]
 have r:Ev th C H H3:=⟨λb o e _ n=>U b o (λz=>by rw [z,Y]at e;cases e;exact n _ _ _ rfl) e,λa aj cX bi bQ qv b e=>⟨b,U a _ (λz=>by rw [z,Y]at e;cases e) e,.inl rfl⟩⟩;have gA:=r.lst hw;have uG:=r.tup ha;have dA:=cf.ev r;have hl:=cf.len;have lk:=z23 q;have close:∀(qv:V) (l:Hp),zw H3 l->QAt l q qv->ze3 K (λσ H Q=>Q (.ref x) H) (λσ H Q=>Q qv H) "question" {nx:=λσ H=>ze3 K (λσ H Q=>Q (.ref x) H) (λσ H Q=>Q (.bl false) H) "settled" {nx:=λ_ H'=>Q .non H',rt:=Q} σ H,rt:=Q} [] l:=λqv l s6 h6=>by
  have s:=s6 _ _ x3;refine⟨x,C,dx,!⟨s,c.cls,c.qu,by show 3 < 1000;decide,?_⟩⟩;refine⟨x,C,dx,!⟨zj,c.cls,c.se,by rw [zfk];show 4 < 1000;decide,?_⟩⟩;refine fin qv _ (λb o d e=>by rw [zl d,zl d];exact s6 _ _ (U b o d e)) (by rw [zj,zfk,zfG];rfl) (h6.mono λb ys z=> ?_);have d:b≠x:=λe=>by rw [e,s]at z;cases z
  rw [zl d,zl d];exact z
 refine !(!⟨wl,rfl,⟨_,SqL.of gA⟩,?_⟩);refine ja (xs:=ws) (λi ys H'=>H'=H3/\ys.length=i/\yr H3 ((kids q).take i) ys) ⟨rfl,rfl,by rw [w0A];rfl⟩ ?_ ?_ ?_
 ·rintro i ys H' hi ⟨rfl,u,_⟩;exact⟨SqL.of gA,zE (by lia)⟩
 ·rintro i y ys H' hi ⟨rfl,u,hq⟩;have cs:i < (kids q).length:=by rw [<-hl];exact(we.mp hi).1
  obtain⟨v,hv,pv⟩:=dA.at (wa cs);rw [hi]at hv;cases hv;obtain⟨us,⟨a,cX,bi,bQ,aj,qv,b,dg,rfl,nd⟩,_⟩:=zV.mp pv;refine !⟨a,C,aj,_,qv,rfl,nd.me,c.cls,c.qu,z9b,rfl,by rw [wg,u];rfl,?_⟩;rw [wQ,wa cs];exact hq.app ⟨qv,[],rfl,nd.qst,rfl⟩
 ·rintro ys H' ⟨rfl,u,hq⟩ np ai;rw [hl,qc]at hq;refine zg (upd _ np _) rfl ai λH4 n4 x4=> ?_
  refine⟨np,ys,rfl,.inl ⟨SqL.of x4,λtp aD=> ?_⟩⟩;refine zg (upd _ tp _) rfl aD λH5 n5 x5=> ?_
  have j:=n4.trans n5;have lO:kN H5 q xs:=(cg.mono λb xs z=>r.tup z).mono λb xs z=>j _ _ z
  refine⟨ah,tp,xs,ys,rfl,rfl,SqT.of (j _ _ uG),SqT.of x5,?_,?_,λe=> ?_,λne p hp=> ?_⟩
  ·exact(z4z cg).1
  ·have:=(z4z cg).2;exact jb (by lia)
  ·subst e;have Ay:QAt H5 q (.ref ah):=ze4 lO (hq.same j) (by rw [Ql];exact j _ _ uG);obtain⟨N,D,aj,i6,S,M,Z,e4,e5,J,t,L,I,f1,f2,X,G,R,O⟩:=close _ _ j Ay;exact !⟨N,D,aj,i6,S,M,Z,e4,e5,!⟨J,t,L,I,f1,f2,X,G,R,O⟩⟩
  ·refine zg (upd _ p _) rfl hp λl B s=> ?_
   have Az:QAt l q (.ref p):=ze4 (lO.mono λb xs z=>B _ _ z) (hq.same (j.trans B)) s;obtain⟨N,D,aj,i6,S,M,Z,e4,e5,J,t,L,I,f1,f2,X,G,R,O⟩:=close _ _ (j.trans B) Az;exact !⟨N,D,aj,i6,S,M,Z,e4,e5,!⟨J,t,L,I,f1,f2,X,G,R,O⟩⟩
theorem jF{Q:VK}{hd:Addr}(ha:H ah=some (.tup xs))(c:kN H q xs)(f:H hd=some (.lst ((zd th q).map V.str)))(d:H wl=some (.lst ws))(hp:jQ th C H (kids q) ws)
  (fin:∀(x dx:Addr) (qv:V) (H':Hp),zw H H'->H x=none->NodeAt th C H' q x ws ah hd wl dx qv false xs->jP th C H' q (.ref x)->Q (.ref x) H'):
  ∀x dx,H x=none->H dx=none->dx≠x->spPInit K C (.ref x :: ([.ref ah,.ref hd,.ref wl] ++ [])) (upd (upd H dx (.own x)) x (.ins C dx [])) (λv H2=>v= .non/\Q (.ref x) H2) E:=by
 intro x dx a i n;have s1:zw H (upd (upd H dx (.own x)) x (.ins C dx [])):=λb o e=>by
  have b1:b≠x:=λz=>by rw [z,a]at e;cases e
  have b2:b≠dx:=λz=>by rw [z,i]at e;cases e
  rw [zl b1,zl b2];exact e
 refine⟨th,q,x,dx,ah,hd,wl,xs,ws,rfl,zj,s1 _ _ ha,c.mono λb xs z=>s1 _ _ z,s1 _ _ d,hp.ev (Ev.of (Nt.of s1)),λqv H' l j h=>⟨rfl,?_⟩⟩;have s2:zw H H':=λb o e=>l b o (λz=>by rw [z,a]at e;cases e) (s1 b o e)
 have nd:NodeAt th C H' q x ws ah hd wl dx qv false xs:=⟨j,s2 _ _ ha,c.mono λb xs z=>s2 _ _ z,s2 _ _ f,s2 _ _ d,h,λz=>by cases z⟩;exact fin x dx qv H' s2 a nd (zV.mpr ⟨ws,⟨x,ah,hd,wl,dx,qv,false,xs,rfl,nd⟩,hp.ev (Ev.of (Nt.of s2))⟩)
noncomputable def ya:Qn->Str
 | .table _=>"table"
 | .pick _ _=>"pick"
 | .cols _ _=>"cols"
 | .pair _ _=>"pair"
 | .join _ _ _ _=>"join"
 | .both _ _=>"both"
 | .first _ _=>"first"
 | .group _ _ _ _ _=>"group"
 | .sort _ _=>"sort"
theorem z0m(h:kN H q xs):∃r,xs= .str (ya q) :: r:=by
 cases q with
 | pick c q=>obtain⟨x,e,h⟩:=h;exact⟨_,e⟩
 | cols ns q=>obtain⟨x,e,h⟩:=h;exact⟨_,e⟩
 | _=>exact⟨_,h⟩
inductive spIsPick (C:Addr) (vs:List V) (H:Hp) (Q:VK) (E:XK):Prop
 | mk:∀th q v,vs= [v]->jP th C H q v->Q (.bl (decide (ya q="pick"))) H->spIsPick C vs H Q E
theorem z7P:FnScope ["place"] ["place"] (zi z3q):=by walk_at "s"
theorem z8E(F:Fun K "is_pick" "is_pick" z3q f fd)(T:Txt K mg)(c:PC K C):FnOk P w K mg base CX0 1 f fd ["place"] (spIsPick C):=by
 refine F.okB z7P (λvs H Q E h=> ?_) (λvs H Q E h=> ?_)
 ·obtain⟨th,q,v,rfl,_⟩:=h
  rfl
 obtain⟨th,q,v,rfl,hp,fin⟩:=h;obtain⟨ws,⟨a,ah,hd,wl,dx,qv,b,xs,rfl,nd⟩,_⟩:=zV.mp hp;obtain⟨r,rfl⟩:=z0m nd.ahx;intro ac A outer d hr;refine⟨_,(zf (zr (cmE zM (ixT (zz v0 rfl) za) zo))),?_⟩;generalize hK0:K=K1;generalize hK1:C=C1
 revert C1
 revert K1
 refine z0f (by walk_at "cl") ?_;refine !(yH c nd.me (zh nd.ahd zH ⟨rfl,?_⟩));rw [zY];exact fin
inductive spPickedP (C:Addr) (vs:List V) (H:Hp) (Q:VK) (E:XK):Prop
 | mk:∀th c q cv v,vs= [cv,v]->zC H c cv->jP th C H q v->(∀(x:Addr) (H':Hp),zw H H'->jP th C H' (.pick c q) (.ref x)->Q (.ref x) H')->spPickedP C vs H Q E
theorem zaa:FnScope ["condition","place"] ["condition","place"] (zi z4l):=by walk_at "s"
theorem z9F(F:Fun K "picked" "picked" z4l f fd)(T:Txt K mg)(n:PC K C)(d:KnC P w K mg base 1 "Place" ["self","ahead","heads","within"] (spPInit K C) C):FnOk P w K mg base CX0 3 f fd ["condition","place"] (spPickedP C):=by
 refine F.okB zaa (λvs H Q E h=> ?_) (λvs H Q E h=> ?_)
 ·obtain⟨th,c,q,cv,v,rfl,_⟩:=h
  rfl
 obtain⟨th,c,q,cv,v,rfl,hc,hp,fin⟩:=h;obtain⟨ws,⟨a,ah,hd,wl,dx,qv,b,xs,rfl,nd⟩,r⟩:=zV.mp hp;intro ac A outer p hr;refine⟨_,(zf (zr (yp d hr.m rfl (zZ (zG (zt zo (zb v0 ze))) (zN (zz v1 rfl) (jI (zF (zb v1 ze)) ze)))))),?_⟩;generalize hK0:K=K1;generalize hK1:C=C1
 revert C1
 revert K1
 refine z0f (by walk_at "cl") ?_;refine !⟨(zA rfl),λtp o=> ?_⟩;refine zg (upd _ tp _) rfl o λH1 e x1=> ?_
 have s:=Ev.of (th:=th) (C:=C) (Nt.of e);refine !(z0K n (e _ _ nd.me) ?_);refine !⟨(zA rfl),λlp l=> ?_⟩;refine zg (upd _ lp _) rfl l λH2 i j=> ?_
 have s2:=e.trans i;refine jF (q:= .pick c q) (xs:= [.str "pick",cv]) (i _ _ x1) ⟨cv,rfl,hc.mono λb xs z=>s2 _ _ z⟩ (s2 _ _ nd.hds) j ⟨_,[],rfl,hp.ev (Ev.of (Nt.of s2)),rfl⟩ λx aj aQ H' s' _ _ pl=>fin x H' (s2.trans s') pl
structure TxtM(K:W.Frag)(mg:Str->Option Value):Prop where
 all:mg "all"=none
 enumerate:mg "enumerate"=none
inductive spAmong (K:W.Frag) (vs:List V) (H:Hp) (Q:VK) (E:XK):Prop
 | mk:∀np hp (ns:List Str) (hs:List Str),vs= [.ref np,.ref hp]->H np=some (.lst (ns.map V.str))->H hp=some (.lst (hs.map V.str))->ns.length<=1000->(∀H',zw H H'->Q (.bl (yJ ns hs)) H')->spAmong K vs H Q E
theorem z9l{s:Str}:∀{hs:List Str},inV (.str s) (hs.map V.str)=decide (s∈hs):=by
 intro hs;by_cases h:s∈hs
 ·rw [z6t h,wL h]
 ·rw [wH h];refine Qu.mpr λz=>h ?_
  obtain⟨y,a,e⟩:=QF.mp z;obtain⟨n,hn,rfl⟩:=qe.mp a;have:n=s:=by simpa [eqV]using e
  exact this ▸ hn
theorem zbB:FnScope ["names","heads"] ["names","heads"] (zi z3X):=by walk_at "s"
theorem zc0(F:Fun K "among" "among" z3X f fd)(T:Txt K mg)(M:TxtM K mg):FnOk P w K mg base CX0 1 f fd ["names","heads"] (spAmong K):=by
 refine F.okB zbB (λvs H Q E h=> ?_) (λvs H Q E h=> ?_)
 ·obtain⟨np,hp,ns,hs,rfl,_⟩:=h
  rfl
 obtain⟨np,hp,ns,hs,rfl,h1,h2,hl,fin⟩:=h;intro ac A outer c hr;refine⟨_,(zf (zr (zP (zbw rfl) rfl M.all z9X (z0r (jC rfl (CompSc.of (sx:=zi z3X) (NX:= ["names","heads"]) (fr:= ["heads"]) (ix:= [1]) rfl rfl (by decide +kernel)) (zR v0) (λ_ _ _ _ _ _=>jg) (λ_ _ _ _ _ _=>(z3Y (z7R (K:=K) rfl) v0 v1 (by with_unfolding_all rfl)))) ze)))),?_⟩;generalize hK0:K=K1
 revert K1
 refine jj (by walk_at "cl") ?_;refine !⟨np,rfl,⟨_,SqL.of h1⟩,?_⟩;refine ja (xs:=ns.map V.str) (λi ys H'=>H'=H/\ys=(ns.take i).map λn=>V.bl (decide (n∈hs))) ⟨rfl,rfl⟩ ?_ ?_ ?_
 ·rintro i ys H' hi ⟨rfl,rfl⟩;exact⟨SqL.of h1,zE (by rw [w9,wK];lia)⟩
 ·rintro i y ys H' hi ⟨rfl,rfl⟩;rw [wF]at hi;cases hn:ns[i]? with
  | none=>rw [hn]at hi;cases hi
  | some n=>
   rw [hn]at hi;cases hi;refine !(!⟨hp,!⟨.inl (SqL.of h2),rfl,zT hs,rfl,?_⟩⟩);rw [wQ,hn,wD]
   show _ ++ [V.bl (inV _ _)]=_
   rw [z9l]
   rfl
 ·rintro ys H' ⟨rfl,rfl⟩ lp a;refine zg (upd _ lp _) rfl a λH1 b x1=> ?_
  rw [w9,qc]at x1;refine⟨lp,ns.map λn=>decide (n∈hs),rfl,SqL.of (by rw [Qe];exact x1),?_⟩;have e:(ns.map λn=>decide (n∈hs)).all id=yJ ns hs:=by rw [List.all_map];rfl
  rw [e];exact fin H1 b
inductive spJoinedBy (C:Addr) (vs:List V) (H:Hp) (Q:VK) (E:XK):Prop
 | mk:∀th x y q r cv v,vs= [cv,v]->zC H (.same (.nm x) (.nm y)) cv->jP th C H (.pair q r) v->(∀(z:Addr) (H':Hp),zw H H'->jP th C H' (z0y th x y q r) (.ref z)->Q (.ref z) H')->spJoinedBy C vs H Q E
theorem k7:FnScope ["condition","pair","one","other"] ["condition","pair"] (zi z1U):=by walk_at "s"
theorem z6E(F:Fun K "joined_by" "joined_by" z1U f fd)(T:Txt K mg)(e:PC K C)(c:KnC P w K mg base 1 "Place" ["self","ahead","heads","within"] (spPInit K C) C):FnOk P w K mg base CX0 3 f fd ["condition","pair"] (spJoinedBy C):=by
 refine F.okB k7 (λvs H Q E h=> ?_) (λvs H Q E h=> ?_)
 ·obtain⟨th,x,y,q,r,cv,v,rfl,_⟩:=h
  rfl
 obtain⟨th,x,y,q,r,cv,v,rfl,⟨cp,rfl,hc⟩,hp,fin⟩:=h;obtain⟨w1,w2,⟨a,ah,hd,wl,dx,qv,b,xs,rfl,nd⟩,i,p2⟩:=id hp;obtain⟨us,⟨a1,G,p,u,z,B,b1,D,rfl,j⟩,_⟩:=zV.mp i;intro ac A outer t hr;refine⟨_,(zc (seT 2 k7 (ixT v0 za))
  (zc (seT 3 k7 (ixT v0 za))
  (zc (kH (kZ ki v2 (zz (ixL (zz v1 rfl) za) rfl) (by with_unfolding_all rfl))
   (zc (seT 2 k7 (ixT v0 za))
   (zf (seT 3 k7 (ixT v0 za))))
   zv)
  (zf (zr (yp c hr.m rfl (zZ (zG (zt zo (zb v2 (zb v3 ze)))) (zN (zz v1 rfl) (zN (zz v1 rfl) ze))))))))),?_⟩
 generalize hK0:K=K1;generalize hK1:C=C1
 revert C1
 revert K1
 refine z0f (by walk_at "cl") ?_;refine !(zh hc j8 ?_);refine !(zh hc jz ?_);refine⟨λσ H'=>∃m n,σ= [some (.ref cp),some (.ref a),some (.str m),some (.str n)]/\H'=H/\z0y th x y q r= .join m n q r,?_,?_⟩
 ·refine !(!(yY e nd.me (zu nd.wit zH (z0K e j.me ⟨p,!⟨.inl (SqL.of j.hds),rfl,zT _,!?_⟩⟩))));rw [show inV (Side.nm x).v ((zd th q).map V.str)=decide (x∈zd th q)from z9l];by_cases hx:x∈zd th q
  ·refine ifF (by show(not (decide _))=false;rw [wL hx];rfl) ?_;exact⟨x,y,rfl,rfl,by unfold z0y;rw [wY hx]⟩
  ·refine ifT (by show(not (decide _))=true;rw [wH hx];rfl) ?_;refine !(zh hc jz ?_);refine !(zh hc j8 ?_);exact⟨y,x,rfl,rfl,by unfold z0y;rw [wM hx]⟩
 rintro σ H' ⟨m,n,rfl,rfl,o⟩;refine !(!⟨(zA rfl),λtp s=> ?_⟩);refine zg (upd _ tp _) rfl s λH1 d x1=> ?_
 refine !(z0K e (d _ _ nd.me) ?_);refine !(yY e (d _ _ nd.me) ?_);have l:=Ev.of (th:=th) (C:=C) (Nt.of d);refine jF (q:= .join m n q r) (xs:= [.str "join",.str m,.str n]) x1 rfl (d _ _ nd.hds) (d _ _ nd.wit) ⟨_,!⟨i.ev l,_,[],rfl,p2.ev l,rfl⟩⟩ λx aj aQ H' s' _ _ pl=>fin x H' (d.trans s') (by rw [o];exact pl)
structure Two(th:Str->List Str)(mk:Qn->Qn->Qn)(ip:Bool):Prop where
 k:∀r s,kids (mk r s)= [r,s]
 h:∀r s,zd th (mk r s)=zd th r ++ zd th s
 a:∀(H:Hp) (r s r' s':Qn) (xs:List V),kN H (mk r s) xs->kN H (mk r' s') xs
 p:ip=true->mk=Qn.pair
 w:∀r s,decide (ya (mk r s)="pair")=ip
theorem zbK:Two th Qn.pair true:=⟨λ_ _=>rfl,λ_ _=>rfl,λ_ _ _ _ _ _ h=>h,λ_=>rfl,λ_ _=>by show decide (("pair":Str)="pair")=true;decide +kernel⟩
theorem zcc{a b:Str}:Two th (Qn.join a b) false:=⟨λ_ _=>rfl,λ_ _=>rfl,λ_ _ _ _ _ _ h=>h,λz=>(by cases z),λ_ _=>by show decide (("join":Str)="pair")=false;decide +kernel⟩
theorem z79(h:∀s,s∈ss↔s∈ns):yJ ss hs=yJ ns hs:=by
 rw [QY,yt,yt];exact⟨λz n m=>z n ((h n).mpr m),λz n m=>z n ((h n).mp m)⟩
theorem z7V{a b:Side}(ok:(Cond.same a b).ok (hq ++ hr))(c:¬yJ (Cond.same a b).cols hq=true)(d:¬yJ (Cond.same a b).cols hr=true):∃x y,a= .nm x/\b= .nm y:=by
 have one:∀(x:Str),x∈hq ++ hr->(∀n∈(Cond.same a b).cols,n=x)->False:=λx e h=>by
  rcases wB.mp e with z | z
  ·exact c (yt.mpr λn m=>by rw [h n m];exact z)
  ·exact d (yt.mpr λn m=>by rw [h n m];exact z)
 cases a with
 | nm x=>cases b with
  | nm y=>exact⟨x,y,rfl,rfl⟩
  | nu j=>exact(one x ok.1 λn m=>by simpa [Cond.cols,Side.cols]using m).elim
 | nu i=>cases b with
  | nm y=>exact(one y ok.2 λn m=>by simpa [Cond.cols,Side.cols]using m).elim
  | nu j=>exact(c (yt.mpr λn m=>by simp [Cond.cols,Side.cols]at m)).elim
def zbh(th:Str->List Str)(C:Addr)(H:Hp)(o:Option Qn)(Q:VK):Prop:=(∀q',o=some q'->∀(z:Addr) (H':Hp),zw H H'->jP th C H' q' (.ref z)->Q (.ref z) H')/\(o=none->∀H',zw H H'->Q .non H')
inductive spSentPart (C:Addr) (vs:List V) (H:Hp) (Q:VK) (E:XK):Prop
 | mk:∀th c (mk:Qn->Qn->Qn) ip r s cv v,vs= [cv,v]->Two th mk ip->zC H c cv->c.size<=20->c.ok (zd th r ++ zd th s)->jP th C H (mk r s) v->zbh th C H (z0W th c mk ip r s) Q->spSentPart C vs H Q E
theorem z0u{v:V}(h:zC H c v):∃cp ys,v= .ref cp/\H cp=some (.tup (.str (wordOf c) :: ys)):=by
 cases c with
 | less a b=>obtain⟨p,rfl,hp⟩:=h;exact⟨p,!hp⟩
 | same a b=>obtain⟨p,rfl,hp⟩:=h;exact⟨p,!hp⟩
 | no c=>obtain⟨p,x,rfl,hp,_⟩:=h;exact⟨p,!hp⟩
 | an c d=>obtain⟨p,x,y,rfl,hp,_⟩:=h;exact⟨p,!hp⟩
 | or c d=>obtain⟨p,x,y,rfl,hp,_⟩:=h;exact⟨p,!hp⟩
theorem yv:FnScope ["condition","place","names","first","second"] ["condition","place"] (zi kP):=by walk_at "s"
theorem z2y(F:Fun K "sent_to_a_part" "sent_to_a_part" kP f fd)(T:Txt K mg)(u:PC K C)(t:KnC P w K mg base 1 "Place" ["self","ahead","heads","within"] (spPInit K C) C)(d:Kn P w K mg base 1 "columns_of" ["condition"] (spCols K))(o:Kn P w K mg base 1 "among" ["names","heads"] (spAmong K))(e:Kn P w K mg base 3 "picked" ["condition","place"] (spPickedP C))(i:Kn P w K mg base 3 "joined_by" ["condition","pair"] (spJoinedBy C)):FnOk P w K mg base CX0 4 f fd ["condition","place"] (spSentPart C):=by
 refine F.okB yv (λvs H Q E h=> ?_) (λvs H Q E h=> ?_)
 ·obtain⟨th,c,mk,ip,r,s,cv,v,rfl,_⟩:=h
  rfl
 obtain⟨th,c,mk,ip,r,s,cv,v,rfl,B,hc,hz,ok,hp,G,D⟩:=h;obtain⟨ws,⟨a,ah,hd,wl,dx,qv,b,xs,rfl,nd⟩,hk⟩:=zV.mp hp;rw [B.k]at hk;obtain⟨w1,us,rfl,U,w2,eA,rfl,p2,rfl⟩:=hk;obtain⟨cY,⟨a1,AA,cW,tF,AB,h9,b1,u7,rfl,Z⟩,_⟩:=zV.mp U;obtain⟨eA,⟨a2,cu,ba,cV,ci,bT,b2,cI,rfl,X⟩,_⟩:=zV.mp p2;intro ac A outer sh hr;refine⟨_,(zc (seT 2 yv (zQ d hr.m (zb v0 ze)))
  (zc (seT 3 yv (ixL (zz v1 rfl) za))
  (zc (seT 4 yv (ixL (zz v1 rfl) za))
  (zc (zD (ji (zQ o hr.m (zb v2 (zN (zz v3 rfl) ze))))
   (zf (zr (yp t hr.m rfl (zN (zz v1 rfl) (zN (zz v1 rfl) (jI (zF (zO (zQ e hr.m (zb v0 (zb v3 ze))) (zb v4 ze))) ze))))))
   zv)
  (zc (zD (ji (zQ o hr.m (zb v2 (zN (zz v4 rfl) ze))))
   (zf (zr (yp t hr.m rfl (zN (zz v1 rfl) (zN (zz v1 rfl) (jI (zF (zb v3 (zO (zQ e hr.m (zb v0 (zb v4 ze))) ze))) ze))))))
   zv)
  (zc (zD (PW.pt (z1K (cmT zM (ixT (zz v1 rfl) za) zo) (z26 (cmT zM (ixT v0 za) zo))))
   (zf (zr (zQ i hr.m (zb v0 (zb v1 ze)))))
   zv)
  (zf (zr z0V)))))))),?_⟩
 generalize hK0:K=K1;generalize hK1:C=C1
 revert C1
 revert K1
 refine z0f (by walk_at "cl") ?_;have lc:=c.cols_le;refine !⟨c,cv,c.cols,rfl,hc,by lia,λs m=>m,by lia,λl ss H1 I x1 R mem _=> ?_⟩;have ls:ss.length<=c.cols.length:=yZ R λn m=>(mem n).mp m
 refine !(yY u (I _ _ nd.me) (zu (I _ _ nd.wit) zH ?_));refine !(yY u (I _ _ nd.me) (zu (I _ _ nd.wit) j8 ?_));refine !(!(z0K u (I _ _ Z.me) ⟨l,cW,ss,_,rfl,x1,I _ _ Z.hds,by lia,λH2 Y=>!?_⟩));have s2:=I.trans Y;rw [z79 mem];unfold z0W at G D;by_cases h1:yJ c.cols (zd th r)=true
 ·rw [wY h1]at G;refine ifT h1 ?_;refine !(yH u (s2 _ _ nd.me) ?_);refine !(z0K u (s2 _ _ nd.me) ?_);refine !(!⟨th,c,r,cv,.ref a1,rfl,hc.mono λb xs z=>s2 _ _ z,U.ev (Ev.of (Nt.of s2)),λx J S pl=>!⟨(zA rfl),λlp O=> ?_⟩⟩);refine zg (upd _ lp _) rfl O λH4 N x4=> ?_
  have M:=s2.trans (S.trans N);refine jF (q:=mk (.pick c r) s) (xs:=xs) (M _ _ nd.ahd) (B.a _ _ _ _ _ _ (nd.ahx.mono λb xs z=>M _ _ z)) (by have:=M _ _ nd.hds;rw [B.h]at this ⊢;exact this) x4 (by rw [B.k];exact⟨_,!⟨pl.ev (Ev.of (Nt.of N)),_,[],rfl,p2.ev (Ev.of (Nt.of M)),rfl⟩⟩) λx aj aQ H' s' _ _ pl=>G _ rfl x H' (M.trans s') pl
 rw [wM h1]at G D;refine ifF (Qu.mpr h1) ?_;refine !(!(z0K u (s2 _ _ X.me) ⟨l,ba,ss,_,rfl,Y _ _ x1,s2 _ _ X.hds,by lia,λJ S=>!?_⟩));have j:=s2.trans S;rw [z79 mem];by_cases h2:yJ c.cols (zd th s)=true
 ·rw [wY h2]at G;refine ifT h2 ?_;refine !(yH u (j _ _ nd.me) ?_);refine !(z0K u (j _ _ nd.me) ?_);refine !(!(!⟨th,c,s,cv,.ref a2,rfl,hc.mono λb xs z=>j _ _ z,p2.ev (Ev.of (Nt.of j)),λx H4 N pl=>⟨(zA rfl),λlp O=> ?_⟩⟩));refine zg (upd _ lp _) rfl O λH5 n5 x5=> ?_
  have L:=j.trans (N.trans n5);refine jF (q:=mk r (.pick c s)) (xs:=xs) (L _ _ nd.ahd) (B.a _ _ _ _ _ _ (nd.ahx.mono λb xs z=>L _ _ z)) (by have:=L _ _ nd.hds;rw [B.h]at this ⊢;exact this) x5 (by rw [B.k];exact⟨_,!⟨U.ev (Ev.of (Nt.of L)),_,[],rfl,pl.ev (Ev.of (Nt.of n5)),rfl⟩⟩) λx aj aQ H' s' _ _ pl=>G _ rfl x H' (L.trans s') pl
 rw [wM h2]at G D;refine ifF (Qu.mpr h2) ?_;obtain⟨xr,fj⟩:=z0m nd.ahx;refine !(yH u (j _ _ nd.me) (zh (j _ _ nd.ahd) (by rw [fj];exact zH) ⟨rfl,!?_⟩));rw [zY,B.w];cases ip with
 | false=>
  refine ifF rfl ?_;exact D rfl J j
 | true=>
  refine ifT rfl ?_;have em:mk=Qn.pair:=B.p rfl;obtain⟨cp,ys,rfl,bx⟩:=z0u hc;refine !(zh (j _ _ bx) zH ⟨rfl,!?_⟩);rw [zY];subst em;by_cases hw:wordOf c="same"
  ·refine ifT (wL hw) ?_;cases c with
   | same x y=>
    obtain⟨m,n,rfl,rfl⟩:=z7V ok h1 h2;exact !(!⟨th,m,n,r,s,_,_,rfl,hc.mono λb xs z=>j _ _ z,hp.ev (Ev.of (Nt.of j)),λz H' s' pl=>G _ rfl z H' (j.trans s') pl⟩)
   | less x y=>exact absurd hw (nb (by kernel_rfl))
   | no x=>exact absurd hw (nb (by kernel_rfl))
   | an x y=>exact absurd hw (nb (by kernel_rfl))
   | or x y=>exact absurd hw (nb (by kernel_rfl))
  ·refine ifF (wH hw) ?_;cases c with
   | same x y=>exact absurd rfl hw
   | less x y=>exact D rfl J j
   | no x=>exact D rfl J j
   | an x y=>exact D rfl J j
   | or x y=>exact D rfl J j
theorem jQ.app:∀{qs rs:List Qn} {vs us:List V},jQ th C H qs vs->jQ th C H rs us->jQ th C H (qs ++ rs) (vs ++ us)
 | [],_,_,_,h,g=>by rw [show _= []from h];exact g
 | _ :: _,_,_,_,⟨v,ws,a,h1,h2⟩,g=>⟨v,ws ++ _,by rw [a];rfl,h1,h2.app g⟩
inductive spSentW (C:Addr) (vs:List V) (H:Hp) (Q:VK) (E:XK):Prop
 | mk:∀th c q cv v,vs= [cv,v]->zC H c cv->c.size<=20->c.ok (zd th q)->jP th C H q v->zbh th C H (yG th c q) Q->spSentW C vs H Q E
theorem z4i:FnScope ["condition","place"] ["condition","place"] (zi kW):=by walk_at "s"
theorem z4c(F:Fun K "sent_within" "sent_within" kW f fd)(T:Txt K mg)(t:PC K C)(n:KnC P w K mg base 1 "Place" ["self","ahead","heads","within"] (spPInit K C) C)(j:Kn P w K mg base 3 "picked" ["condition","place"] (spPickedP C))(d:Kn P w K mg base 4 "sent_to_a_part" ["condition","place"] (spSentPart C)):FnOk P w K mg base CX0 5 f fd ["condition","place"] (spSentW C):=by
 refine F.okB z4i (λvs H Q E h=> ?_) (λvs H Q E h=> ?_)
 ·obtain⟨th,c,q,cv,v,rfl,_⟩:=h
  rfl
 obtain⟨th,c,q,cv,v,rfl,hc,hz,ok,hp,B,D⟩:=h;obtain⟨ws,⟨a,ah,hd,wl,dx,qv,b,xs,rfl,nd⟩,O⟩:=zV.mp hp;obtain⟨cp,ys,rfl,bx⟩:=z0u hc;obtain⟨xr,S⟩:=z0m nd.ahx;intro ac A outer sh hr;refine⟨_,(zc (zD (cmT zM (ixT v0 za) zo)
   (zf (zr (zQ j hr.m (zm (ixT v0 za) (zO (zQ j hr.m (zm (ixT v0 za) (zb v1 ze))) ze)))))
   zv)
  (zc (zD (kZ kK (ixT (zz v1 rfl) za) (zG (zt zo (zt zo (zt zo ze)))) (by with_unfolding_all rfl))
   (zf (zr (yp n hr.m rfl (zN (zz v1 rfl) (zN (zz v1 rfl) (z0r (jC rfl (CompSc.of (sx:=zi kW) (NX:= ["condition","place"]) (fr:= ["condition"]) (ix:= [0]) rfl rfl (by decide +kernel)) (zR (zz v1 rfl)) (λ_ _ _ _ _ _=>jg) (λ_ _ _ _ _ _=>(zQ j hr.m (zb v1 (zb v0 ze))))) ze))))))
   zv)
  (zc (zD (kZ kK (ixT (zz v1 rfl) za) (zG (zt zo (zt zo ze))) (by with_unfolding_all rfl))
   (zf (zr (zQ d hr.m (zb v0 (zb v1 ze)))))
   zv)
  (zf (zr z0V))))),?_⟩
 generalize hK0:K=K1;generalize hK1:C=C1
 revert C1
 revert K1
 refine z0f (by walk_at "cl") ?_;refine !(zh bx zH ⟨rfl,!?_⟩);rw [zY];by_cases hw:wordOf c="and"
 ·refine ifT (wL hw) ?_;cases c with
  | an x y=>
   obtain⟨Es,c1,c2,e0,R,k1,Z⟩:=hc;cases e0;refine !(zh R j8 ?_);refine !(zh R jz (!⟨th,y,q,c2,_,rfl,Z,hp,λz H1 l pl=> ?_⟩));exact⟨th,x,.pick y q,c1,_,rfl,k1.mono λb xs z=>l _ _ z,pl,λz' H2 I dz=>B _ rfl z' H2 (l.trans I) dz⟩
  | less x y=>exact absurd hw (nb (by kernel_rfl))
  | same x y=>exact absurd hw (nb (by kernel_rfl))
  | no x=>exact absurd hw (nb (by kernel_rfl))
  | or x y=>exact absurd hw (nb (by kernel_rfl))
 refine ifF (wH hw) ?_;have eW:yG th c q=z9v th c q:=by cases c <;> first | rfl | exact absurd rfl hw
 rw [eW]at B D;refine !(yH t nd.me (zh nd.ahd (by rw [S];exact zH) ⟨(zA rfl),λtp aD=> ?_⟩));refine zg (upd _ tp _) rfl aD λH1 l x1=> ?_
 refine⟨tp,!⟨.inr (SqT.of x1),rfl,rfl,!?_⟩⟩;have hl:=O.len;have lk:=z23 q;by_cases b7:inV (.str (ya q)) [.str "sort",.str "cols",.str "both"]=true
 ·refine ifT b7 ?_;obtain⟨q',e,ek,eh,ea⟩:∃q',z9v th c q=some q'/\kids q'=(kids q).map (Qn.pick c)/\zd th q'=zd th q/\∀(H:Hp) (xs:List V),kN H q xs->kN H q' xs:=by
   cases q with
   | sort x r=>exact !⟨rfl,rfl,λ_ _ h=>h⟩
   | cols ns r=>exact !⟨rfl,rfl,λ_ _ h=>h⟩
   | both r s=>exact !⟨rfl,rfl,λ_ _ h=>h⟩
   | _=>exact absurd b7 (Qu.mp (by kernel_rfl))
  refine !(yH t (l _ _ nd.me) ?_);refine !(z0K t (l _ _ nd.me) ?_);refine !(yY t (l _ _ nd.me) ⟨wl,rfl,⟨_,SqL.of (l _ _ nd.wit)⟩,?_⟩);refine ja (xs:=ws) (λi zs H'=>zw H1 H'/\zs.length=i/\jQ th C H' (((kids q).take i).map (Qn.pick c)) zs) ⟨zw.refl _,rfl,by rw [w0A];rfl⟩ ?_ ?_ ?_
  ·rintro i zs H' hi ⟨o,J,_⟩;exact⟨SqL.of (o _ _ (l _ _ nd.wit)),zE (by lia)⟩
  ·rintro i y zs H' hi ⟨o,J,hq⟩;have M:i < (kids q).length:=by rw [<-hl];exact(we.mp hi).1
   obtain⟨v,Y,pv⟩:=O.at (wa M);rw [hi]at Y;cases Y;have s1:=l.trans o;refine !(!⟨th,c,(kids q)[i],_,y,rfl,hc.mono λb xs z=>s1 _ _ z,pv.ev (Ev.of (Nt.of s1)),λx H3 U pl=>⟨o.trans U,by rw [wg,J];rfl,?_⟩⟩);rw [wQ,wa M,wD];exact(hq.ev (Ev.of (Nt.of U))).app ⟨_,[],rfl,pl,rfl⟩
  ·rintro zs H' ⟨o,J,hq⟩ lp aX;refine zg (upd _ lp _) rfl aX λH4 N x4=> ?_
   rw [hl,qc]at hq;have G:=l.trans (o.trans N);exact jF (q:=q') (xs:=xs) (G _ _ nd.ahd) (ea _ _ (nd.ahx.mono λb xs z=>G _ _ z)) (by rw [eh];exact G _ _ nd.hds) x4 (by rw [ek];exact hq.ev (Ev.of (Nt.of N))) λx aj aQ H' s' _ _ pl=>B _ e x H' (G.trans s') pl
 refine ifF (Qu.mpr b7) ?_;refine !(yH t (l _ _ nd.me) (zh (l _ _ nd.ahd) (by rw [S];exact zH) ⟨(zA rfl),λp u=> ?_⟩));refine zg (upd _ p _) rfl u λH2 I x2=> ?_
 refine⟨p,!⟨.inr (SqT.of x2),rfl,rfl,!?_⟩⟩;have s2:=l.trans I;have X:=hp.ev (Ev.of (Nt.of s2));have L:zC H2 c (.ref cp):=hc.mono λb xs z=>s2 _ _ z
 cases q with
 | pair r s=>exact ifT (by show inV (.str "pair") _=true;decide +kernel) (!(!⟨th,c,.pair,true,r,s,_,_,rfl,zbK,L,hz,ok,X,λq' e z H' s' pl=>B q' e z H' (s2.trans s') pl,λe H' s'=>D e H' (s2.trans s')⟩))
 | join x y r s=>exact ifT (by show inV (.str "join") _=true;decide +kernel) (!(!⟨th,c,.join x y,false,r,s,_,_,rfl,zcc,L,hz,ok,X,λq' e z H' s' pl=>B q' e z H' (s2.trans s') pl,λe H' s'=>D e H' (s2.trans s')⟩))
 | sort | cols | both=>exact absurd (by kernel_rfl) b7
 | _=>exact ifF (by kernel_rfl) (D rfl H2 s2)
inductive spTakes (C:Addr) (vs:List V) (H:Hp) (Q:VK) (E:XK):Prop
 | mk:∀th c q cv v,vs= [v,cv]->zC H c cv->c.size<=20->c.ok (zd th q)->jP th C H q v->(∀H',zw H H'->Q (.bl (yG th c q).isSome) H')->spTakes C vs H Q E
theorem zbl:FnScope ["place","condition"] ["place","condition"] (zi z5X):=by walk_at "s"
theorem zbC(F:Fun K "takes" "takes" z5X f fd)(T:Txt K mg)(a:Kn P w K mg base 5 "sent_within" ["condition","place"] (spSentW C)):FnOk P w K mg base CX0 6 f fd ["place","condition"] (spTakes C):=by
 refine F.okB zbl (λvs H Q E h=> ?_) (λvs H Q E h=> ?_)
 ·obtain⟨th,c,q,cv,v,rfl,_⟩:=h
  rfl
 obtain⟨th,c,q,cv,v,rfl,hc,hz,ok,hp,fin⟩:=h;intro ac A outer b hr;refine⟨_,(zf (zr (cmE z6D (zQ a hr.m (zb v1 (zb v0 ze))) z0V))),?_⟩;generalize hK0:K=K1;generalize hK1:C=C1
 revert C1
 revert K1
 refine z0f (by walk_at "cl") ?_;refine !(!⟨th,c,q,cv,v,rfl,hc,hz,ok,hp,λq' e z H' s' pl=>⟨rfl,?_⟩,λe H' s'=>⟨rfl,?_⟩⟩)
 ·have:=fin H' s';rw [e]at this;exact this
 ·have:=fin H' s';rw [e]at this;exact this
theorem z2e(q:Qn):zd th (beneath q)=zd th q:=by
 induction q with
 | pick _ _ h=>exact h
 | _=>rfl
theorem zce(h:¬ya q="pick"):∀c r,q≠ .pick c r:=λc r e=>h (by rw [e];rfl)
theorem z0x(h:ya q="pick"):∃c r,q= .pick c r:=by
 cases q <;> first | exact⟨_,_,rfl⟩ | exact absurd h (Q2 (by kernel_rfl))
inductive spPasses (C:Addr) (vs:List V) (H:Hp) (Q:VK) (E:XK):Prop
 | mk:∀th c q cv v,vs= [cv,v]->zC H c cv->c.size<=20->c.ok (zd th q)->jP th C H q v->(∀H',zw H H'->Q (.bl (yG th c (beneath q)).isSome) H')->spPasses C vs H Q E
theorem z3c:FnScope ["condition","place","beneath"] ["condition","place"] (zi z4r):=by walk_at "s"
theorem z9D(F:Fun K "passes" "passes" z4r f fd)(T:Txt K mg)(n:PC K C)(e:Kn P w K mg base 1 "is_pick" ["place"] (spIsPick C))(i:Kn P w K mg base 6 "takes" ["place","condition"] (spTakes C)):FnOk P w K mg base CX0 7 f fd ["condition","place"] (spPasses C):=by
 refine F.okB z3c (λvs H Q E h=> ?_) (λvs H Q E h=> ?_)
 ·obtain⟨th,c,q,cv,v,rfl,_⟩:=h
  rfl
 obtain⟨th,c,q,cv,v,rfl,hc,hz,ok,hp,fin⟩:=h;intro ac A outer p hr;refine⟨_,(zc (seT 2 z3c v1)
  (zc (z7h (ji (zQ e hr.m (zb v2 ze)))
   (zf (seT 2 z3c (ixL (zz v2 rfl) za))))
  (zf (zr (zQ i hr.m (zb v2 (zb v0 ze))))))),?_⟩
 generalize hK0:K=K1;generalize hK1:C=C1
 revert C1
 revert K1
 refine z0f (by walk_at "cl") ?_;refine !?_;refine z0P (λm σ H'=>∃(r:Qn) (u:V),σ= [some cv,some v,some u]/\H'=H/\jP th C H r u/\beneath r=beneath q/\m=depth r) (depth q) ⟨q,v,rfl,rfl,hp,rfl,rfl⟩ ?_;rintro m σ H' ⟨r,u,rfl,rfl,l,j,rfl⟩;refine !⟨th,r,u,rfl,l,?_⟩;refine !?_;by_cases hw:ya r="pick"
 ·refine ifT (wL hw) ?_;obtain⟨d,t,rfl⟩:=z0x hw;obtain⟨s,⟨a,ah,hd,wl,dx,qv,b,xs,rfl,nd⟩,pt⟩:=l;refine⟨λσ H2=>∃u,σ= [some cv,some v,some u]/\H2=H'/\jP th C H' t u,?_,?_⟩
  ·rintro σ' H2 ⟨u,rfl,rfl,h⟩;exact⟨depth t,by show depth t < depth t + 1;lia,t,u,rfl,rfl,h,j,rfl⟩
  ·refine !(yY n nd.me (zu nd.wit zH ?_));exact !⟨rfl,pt⟩
 ·refine ifF (wH hw) ?_;rw [<-j,z4o (zce hw)]at fin;have o:zd th r=zd th q:=by rw [<-z2e r,j,z2e]
  exact !(!⟨th,c,r,cv,u,rfl,hc,hz,by rw [o];exact ok,l,fin⟩)
theorem zae:decide (wordOf c="and")=z9Z c:=by
 cases c with
 | an x y=>show decide (("and":Str)="and")=true;decide +kernel
 | less x y=>show decide (("less":Str)="and")=false;decide +kernel
 | same x y=>show decide (("same":Str)="and")=false;decide +kernel
 | no x=>show decide (("not":Str)="and")=false;decide +kernel
 | or x y=>show decide (("or":Str)="and")=false;decide +kernel
theorem z92{r:Qn}(h:¬ya r="pick"):kD th (.pick c r)=yG th c r:=by
 cases r <;> first | rfl | exact absurd rfl h
inductive spTurnedPick (C:Addr) (vs:List V) (H:Hp) (Q:VK) (E:XK):Prop
 | mk:∀th (c:Cond) r v,vs= [v]->c.ok (zd th r)->c.size<=20->jP th C H (.pick c r) v->zbh th C H (kD th (.pick c r)) Q->spTurnedPick C vs H Q E
theorem z0B:FnScope ["place","condition","inner"] ["place"] (zi z0U):=by walk_at "s"
theorem z4R(F:Fun K "turned_pick" "turned_pick" z0U f fd)(T:Txt K mg)(x:PC K C)(l:Kn P w K mg base 1 "is_pick" ["place"] (spIsPick C))(i:Kn P w K mg base 5 "sent_within" ["condition","place"] (spSentW C))(n:Kn P w K mg base 7 "passes" ["condition","place"] (spPasses C))(j:Kn P w K mg base 3 "picked" ["condition","place"] (spPickedP C)):FnOk P w K mg base CX0 8 f fd ["place"] (spTurnedPick C):=by
 refine F.okB z0B (λvs H Q E h=> ?_) (λvs H Q E h=> ?_)
 ·obtain⟨th,c,r,v,rfl,_⟩:=h
  rfl
 obtain⟨th,c,r,v,rfl,ok,hz,hp,q,p⟩:=h;obtain⟨y,⟨a,ah,hd,wl,dx,qv,b,xs,rfl,nd⟩,u⟩:=id hp;obtain⟨cv,rfl,hc⟩:=id nd.ahx;obtain⟨cp,ys,rfl,J⟩:=z0u hc;intro ac A outer O hr;refine⟨_,(zc (seT 1 z0B (ixT (zz v0 rfl) za))
  (zc (seT 2 z0B (ixL (zz v0 rfl) za))
  (zc (zD (PW.pt (z9g (cmT zM (ixT v1 za) zo) (z8q (ym (ji (zQ l hr.m (zb v2 ze)))))))
   (zf (zr (zQ i hr.m (zb v1 (zb v2 ze)))))
   zv)
  (zc (zD (ji (zQ n hr.m (zb v1 (zb v2 ze))))
   (zf (zr (zQ j hr.m (zm (ixT (zz v2 rfl) za) (zO (zQ j hr.m (zb v1 (zm (ixL (zz v2 rfl) za) ze))) ze)))))
   zv)
  (zf (zr z0V)))))),?_⟩
 generalize hK0:K=K1;generalize hK1:C=C1
 revert C1
 revert K1
 refine z0f (by walk_at "cl") ?_;refine !(yH x nd.me (zh nd.ahd j8 ?_));refine !(yY x nd.me (zu nd.wit zH ?_));refine !(zh J zH ⟨rfl,!?_⟩);rw [zY,zae];by_cases ha:z9Z c=true
 ·refine ifT ha ?_;have e:kD th (.pick c r)=yG th c r:=by
   by_cases hw:ya r="pick"
   ·obtain⟨d,t,rfl⟩:=z0x hw
    show(if z9Z c=true then _ else _)=_
    rw [wY ha]
   ·exact z92 hw
  rw [e]at q p;exact !(!⟨th,c,r,_,y,rfl,hc,hz,ok,u,q,p⟩)
 ·refine ifF (Qu.mpr ha) ?_;refine !⟨th,r,y,rfl,u,?_⟩;refine !?_;by_cases hw:ya r="pick"
  ·rw [wL hw];refine ifF rfl ?_;obtain⟨d,t,rfl⟩:=z0x hw;obtain⟨w2,⟨a2,R,U,X,Y,S,b2,Z,rfl,s⟩,pt⟩:=id u;obtain⟨D,rfl,I⟩:=id s.ahx;have e:kD th (.pick c (.pick d t))=if(yG th c (beneath t)).isSome=true then some (.pick d (.pick c t))else none:=by
    show(if z9Z c=true then _ else _)=_
    rw [wM ha]
   rw [e]at q p;refine !(!⟨th,c,.pick d t,_,_,rfl,hc,hz,ok,u,λH1 o=>!?_⟩);have M:beneath (.pick d t)=beneath t:=rfl;rw [M];by_cases hs:(yG th c (beneath t)).isSome=true
   ·rw [wY hs]at q;refine ifT hs ?_;refine !(yH x (o _ _ s.me) (zh (o _ _ s.ahd) j8 ?_));refine !(!(yY x (o _ _ s.me) (zu (o _ _ s.wit) zH ⟨th,c,t,_,w2,rfl,hc.mono λb xs z=>o _ _ z,pt.ev (Ev.of (Nt.of o)),λz H2 G pl=> ?_⟩)));have s2:=o.trans G;exact⟨th,d,.pick c t,D,_,rfl,I.mono λb xs z=>s2 _ _ z,pl,λz' B N L=>q _ rfl z' B (s2.trans N) L⟩
   ·rw [wM hs]at p;refine ifF (Qu.mpr hs) ?_;exact p rfl H1 o
  ·rw [wH hw];refine ifT rfl ?_;rw [z92 hw]at q p;exact !(!⟨th,c,r,_,y,rfl,hc,hz,ok,u,q,p⟩)
theorem z6O{hd:Addr}(ha:H ah=some (.tup xs))(s:kN H q xs)(o:H hd=some (.lst ((zd th q).map V.str)))(A:H wl=some (.lst ws))(hp:jQ th C H (kids q) ws)
  (fin:∀(x:Addr) (H':Hp),zw H H'->jP th C H' q (.ref x)->R x .non H'):
  ∀x dx,H x=none->H dx=none->dx≠x->spPInit K C (.ref x :: ([.ref ah,.ref hd,.ref wl] ++ [])) (upd (upd H dx (.own x)) x (.ins C dx [])) (R x) E:=by
 intro x dx f u i;obtain⟨p,q',l,aj,h,d,bQ,n,B,e,h1,h2,a,r,w,t⟩:=jF (K:=K) (E:=E) (Q:=λv H'=>∀z,v= .ref z->R z .non H') ha s o A hp (λz aj aQ H' s' _ _ pl y c=>by cases c;exact fin z H' s' pl) x dx f u i;exact⟨p,q',l,aj,h,d,bQ,n,B,e,h1,h2,a,r,w,λqv H' j b D=>(t qv H' j b D).2 x rfl⟩
theorem z1X(h:ya q="first"):∃n r,q= .first n r:=by
 cases q <;> first | exact⟨_,_,rfl⟩ | exact absurd h (Q2 (by kernel_rfl))
theorem z1m(h:ya q="cols"):∃ns r,q= .cols ns r:=by
 cases q <;> first | exact⟨_,_,rfl⟩ | exact absurd h (Q2 (by kernel_rfl))
theorem z2p(h:ya q="sort"):∃a r,q= .sort a r:=by
 cases q <;> first | exact⟨_,_,rfl⟩ | exact absurd h (Q2 (by kernel_rfl))
inductive spTurnedFirst (C:Addr) (vs:List V) (H:Hp) (Q:VK) (E:XK):Prop
 | mk:∀th n r v,vs= [v]->jP th C H (.first n r) v->zbh th C H (kD th (.first n r)) Q->spTurnedFirst C vs H Q E
theorem z0d:FnScope ["place","inner","beneath"] ["place"] (zi z0C):=by walk_at "s"
theorem z3I(F:Fun K "turned_first" "turned_first" z0C f fd)(T:Txt K mg)(e:PC K C)(c:KnC P w K mg base 1 "Place" ["self","ahead","heads","within"] (spPInit K C) C):FnOk P w K mg base CX0 3 f fd ["place"] (spTurnedFirst C):=by
 refine F.okB z0d (λvs H Q E h=> ?_) (λvs H Q E h=> ?_)
 ·obtain⟨th,n,r,v,rfl,_⟩:=h
  rfl
 obtain⟨th,n,r,v,rfl,hp,B,J⟩:=h;obtain⟨wv,⟨a,ah,hd,wl,dx,qv,b,xs,rfl,nd⟩,M⟩:=id hp;have ex:xs= [.str "first",.int n]:=nd.ahx;subst ex;obtain⟨us,⟨a2,cu,ba,cV,ci,bT,b2,u,rfl,d⟩,s⟩:=zV.mp M;obtain⟨S,D⟩:=z0m d.ahx;intro ac A outer sh hr;refine⟨_,(zc (seT 1 z0d (ixL (zz v0 rfl) za))
  (zc (zD (cmT zM (ixT (zz v1 rfl) za) zo)
   (zf (zr (yp c hr.m rfl (zZ (zG (zt zo (zO (zP (z5e rfl) rfl T.min PyProof.Rows.boot_min (zm (ixT (zz v0 rfl) za) (zm (ixT (zz v1 rfl) za) ze))) ze))) (zN (zz v0 rfl) (zN (zz v1 rfl) ze))))))
   zv)
  (zc (zD (cmT zM (ixT (zz v1 rfl) za) zo)
   (zc (seT 2 z0d (ixL (zz v1 rfl) za))
   (zf (zr (yp c hr.m rfl (zN (zz v1 rfl) (zN (zz v1 rfl) (jI (zF (zO (yp c hr.m rfl (zN (zz v0 rfl) (zN (zz v2 rfl) (jI (zF (zb v2 ze)) ze)))) ze)) ze)))))))
   zv)
  (zf (zr z0V))))),?_⟩
 generalize hK0:K=K1;generalize hK1:C=C1
 revert C1
 revert K1
 refine z0f (by walk_at "cl") ?_;refine !(yY e nd.me (zu nd.wit zH ?_));refine !(yH e d.me (zh d.ahd (by rw [D];exact zH) ⟨rfl,!?_⟩));rw [zY];by_cases h1:ya r="first"
 ·refine ifT (wL h1) ?_;obtain⟨m,t,rfl⟩:=z1X h1;have ex2:u= [.str "first",.int m]:=d.ahx;subst ex2;refine !(yH e nd.me (zh nd.ahd j8 ?_));refine !(yH e d.me (zh d.ahd j8 ⟨n,m,rfl,(zA rfl),λtp L=> ?_⟩));refine zg (upd _ tp _) rfl L λH1 i x1=> ?_
  rw [show(if m < n then m else n)=min n m by split <;> lia]at x1;refine !(z0K e (i _ _ nd.me) ?_);refine !(yY e (i _ _ d.me) ?_);exact jF (q:= .first (min n m) t) (xs:= [.str "first",.int (min n m)]) x1 rfl (i _ _ nd.hds) (i _ _ d.wit) (s.ev (Ev.of (Nt.of i))) λx aj aQ H' s' _ _ pl=>B _ rfl x H' (i.trans s') pl
 refine ifF (wH h1) ?_;refine !(yH e d.me (zh d.ahd (by rw [D];exact zH) ⟨rfl,!?_⟩));rw [zY];by_cases h2:ya r="cols"
 ·refine ifT (wL h2) ?_;obtain⟨ns,t,rfl⟩:=z1m h2;obtain⟨w3,Et,rfl,p,rfl⟩:=s;obtain⟨Eu,⟨Z,O,Ex,U,Y,R,X,EB,rfl,y⟩,_⟩:=zV.mp p;refine !(yY e d.me (zu d.wit zH ?_));refine !(yH e d.me ?_);refine !(z0K e d.me ?_);refine !(yH e nd.me ?_);refine !(z0K e y.me ?_);refine !⟨(zA rfl),λlp I=> ?_⟩;refine zg (upd _ lp _) rfl I λH1 i x1=> ?_
  refine z6O (q:= .first n t) (xs:= [.str "first",.int n]) (i _ _ nd.ahd) rfl (i _ _ y.hds) x1 ⟨_,[],rfl,p.ev (Ev.of (Nt.of i)),rfl⟩ λx H2 s2 pl=>⟨rfl,(zA rfl),λo j=> ?_⟩
  refine zg (upd _ o _) rfl j λH3 G N=> ?_
  have l:=i.trans (s2.trans G);exact jF (q:= .cols ns (.first n t)) (xs:=u) (l _ _ d.ahd) (d.ahx.mono λb xs z=>l _ _ z) (l _ _ d.hds) N ⟨_,[],rfl,pl.ev (Ev.of (Nt.of G)),rfl⟩ λx aj aQ H' s' _ _ pl=>B _ rfl x H' (l.trans s') pl
 refine ifF (wH h2) ?_;refine J ?_ H (zw.refl _);cases r <;> first | rfl | exact absurd rfl h1 | exact absurd rfl h2
noncomputable def zK:Qn->Nat
 | .table _=>1
 | .pick _ q | .cols _ q | .first _ q | .group _ _ _ _ q | .sort _ q=>zK q
 | .pair q r | .join _ _ q r | .both q r=>zK q + zK r
noncomputable def wt:Qn->Nat
 | .table _=>1
 | .pick c q=>c.size * zK q + wt q
 | .cols _ q | .first _ q | .group _ _ _ _ q | .sort _ q=>wt q + 1
 | .pair q r | .join _ _ q r | .both q r=>wt q + wt r + 1
theorem z89(q:Qn):1<=zK q:=by induction q <;> simp only [zK] <;> lia
theorem z6x(q:Qn):(post q).length<=wt q:=by
 induction q
 case' pick c q h=>have h2:1 * 1<=c.size * zK q:=w1c c.size_pos (z89 q)
 all_goals
  simp only [post,wt,wg,wS,Qo]
  lia
theorem z9K{x y:Str}{r:Qn}:z0y th x y q r= .join x y q r\/z0y th x y q r= .join y x q r:=by
 unfold z0y;split <;> simp
theorem z95{r:Qn}(hm:∀x y,zK (mk x y)=zK x + zK y/\wt (mk x y)=wt x + wt y + 1)(e:z0W th c mk b q r=some q'):zK q'=zK q + zK r/\wt q'<=c.size * (zK q + zK r) + (wt q + wt r + 1):=by
 rw [QT];rcases z6k e with _ | _ | ⟨x,y⟩
 ·rw [(hm _ _).1,(hm _ _).2];exact⟨rfl,by simp only [wt];lia⟩
 ·rw [(hm _ _).1,(hm _ _).2];exact⟨rfl,by simp only [wt];lia⟩
 ·rcases z9K (th:=th) (x:=x) (y:=y) (q:=q) (r:=r)with h | h <;> rw [h] <;> exact⟨rfl,by simp only [wt];lia⟩
theorem zd9(e:yG th c q=some q'):zK q'=zK q/\wt q'<=c.size * zK q + wt q:=by
 rcases z61 e with⟨a,b,rfl,rfl⟩ | e
 ·refine⟨rfl,?_⟩;have:(Cond.an a b).size * zK q=a.size * zK q + b.size * zK q + zK q:=by
   show(a.size + b.size + 1) * _=_
   rw [w1l,w1l,Nat.one_mul]
  rw [this];simp only [wt,zK]
  lia
 cases q with
 | pair r s=>exact z95 (mk:= .pair) (b:=true) (λ_ _=>⟨rfl,rfl⟩) e
 | join a b r s=>exact z95 (mk:= .join a b) (b:=false) (λ_ _=>⟨rfl,rfl⟩) e
 | _=>cases e <;> exact⟨rfl,by simp only [wt,zK,QT];lia⟩
theorem zd1(e:kD th q=some q'):zK q'=zK q/\wt q'<=wt q:=by
 rcases z69 e with⟨c,r,_,f⟩ | ⟨c,d,r,_⟩ | ⟨n,m,r⟩ | ⟨n,l,r⟩ | ⟨l,m,r⟩ | ⟨a,r⟩
 ·exact zd9 f
 all_goals exact⟨rfl,by simp only [wt,zK];lia⟩
theorem ze5{p k:Qn}(a:(kids p)[i]? =some k)(hl:zK k'=zK k)(h:wt k'<=wt k):zK (j9 p i k')=zK p/\wt (j9 p i k')<=wt p:=by
 cases p <;> rcases i with _ | _ | i <;> cases a <;> simp only [j9,zK,wt,hl,w1K,Nat.zero_add,Nat.one_ne_zero,w1d] <;> lia
theorem z90:∀{c:List (Qn×Nat)} {q q':Qn},kE th c q->zK q'=zK q->wt q'<=wt q->wt (y0 c q')<=wt (y0 c q)
 | [],_,_,_,_,h=>h
 | (p,i) :: c,q,q',h,hl,b=>by
  have a:=ze5 (z4g (k:=q) h.1) hl b;rw [set_set h.1]at a;exact z90 (c:=c) h.2.2 a.1 a.2
theorem zby{p k:Qn}(a:(kids p)[i]? =some k):(post k).length + 1<=(post p).length:=by
 cases p <;> rcases i with _ | _ | i <;> cases a <;> simp only [post,wg,wS] <;> lia
theorem z5o:∀{c:List (Qn×Nat)} {q:Qn},kE th c q->(post q).length + c.length<=(post (y0 c q)).length
 | [],_,_=>ww _
 | (p,i) :: c,q,h=>by
  have a:=zby (z4g (k:=q) h.1);have b:=z5o (c:=c) h.2.2
  show _ + (c.length + 1)<=(post (y0 c (j9 p i q))).length
  lia
theorem z5D:∀{c:List (Qn×Nat)} {p q:Qn} {i:Nat},y0 (c ++ [(p,i)]) q=j9 p i (y0 c q)
 | [],_,_,_=>rfl
 | (p',j) :: c,p,q,i=>z5D (c:=c) (q:=j9 p' j q)
noncomputable def rest(p:Qn)(j:Nat):Nat:=((kids p).drop j).foldr (λk n=>3 * (post k).length + n) 0
theorem z8X{p k:Qn}(a:(kids p)[i]? =some k):rest p i=3 * (post k).length + rest p (i + 1):=by
 unfold rest;obtain⟨hi,e⟩:=we.mp a;rw [List.drop_eq_getElem_cons hi,e]
 rfl
theorem za8{p:Qn}:rest p (i + 1)<=rest p i:=by
 by_cases h:i < (kids p).length
 ·rw [z8X (wa h)];lia
 ·unfold rest;rw [List.drop_eq_nil_of_le (by lia),List.drop_eq_nil_of_le (by lia)];exact ww _
theorem zdk{p:Qn}(h:i<=j):rest p j<=rest p i:=by
 induction h with
 | refl=>exact ww _
 | step _ a=>exact wP za8 a
theorem zbf(k:Qn):rest k 0 + 3=3 * (post k).length:=by
 cases k <;> simp only [rest,kids,post,w1b,List.foldr_cons,List.foldr_nil,wg,wS] <;> lia
theorem zaE{p k:Qn}(h:i < (kids p).length):rest (j9 p i k) (i + 1)=rest p (i + 1):=by
 unfold rest;rw [z1O h,List.drop_set_of_lt (w0n i)]
noncomputable def budget(c:List (Qn×Nat)):Nat:=c.foldr (λx n=>2 + rest x.1 (x.2 + 1) + n) 0
theorem z6X(q:Qn):zK q<=(post q).length:=by
 induction q <;> simp only [post,zK,wg,wS,Qo] <;> lia
theorem z4P{d1 d2 l1 l2:Nat}:d1 * l1 + d2 * l2<=(max d1 d2 + 1) * (l1 + l2):=by
 have b:d1 * l1<=max d1 d2 * l1:=Qz _ (Nat.le_max_left _ _);have a:d2 * l2<=max d1 d2 * l2:=Qz _ (Nat.le_max_right _ _);rw [w1l,Nat.one_mul,QT]
 lia
theorem zfj(h:okQ th q):wt q<=(post q).length + 6 * (depth q * zK q):=by
 induction q
 case' pick c q i=>have:c.size * zK q<=6 * zK q:=Qz _ h.2.1;have:=i h.2.2
 case' cols i=>have:=i h.2.2.2
 case' first i=>have:=i h.2
 case' group i=>have:=i h.2.2.2.2.2
 case' sort i=>have:=i h.2
 case' pair q r i j=>have:=i h.2.1;have:=j h.2.2;have:=z4P (d1:=depth q) (d2:=depth r) (l1:=zK q) (l2:=zK r)
 case' join q r i j=>have:=i h.2.2.2.1;have:=j h.2.2.2.2;have:=z4P (d1:=depth q) (d2:=depth r) (l1:=zK q) (l2:=zK r)
 case' both q r i j=>have:=i h.2.1;have:=j h.2.2;have:=z4P (d1:=depth q) (d2:=depth r) (l1:=zK q) (l2:=zK r)
 case' pair | join | both=>simp only [wt,post,depth,zK,wg,wS]
 all_goals
  try simp only [wt,post,depth,zK,wg,wS,Qo,w1l,Nat.one_mul,QT]
  lia
theorem zbm(h:okQ th q)(hp:(post q).length<=41600)(hd:depth q<=29):wt q<=8000000:=by
 have h1:=zfj h;have h2:=z6X q;have a:depth q * zK q<=29 * 41600:=w1c hd (by lia)
 lia
theorem zda(h:kN H q xs):∀v∈xs,yW v=true\/∃p zs,v= .ref p/\SqT K H p zs:=by
 cases q with
 | pick c q=>
  obtain⟨x,rfl,hc⟩:=h;obtain⟨p,ys,rfl,hp⟩:=z0u hc;intro v m;simp only [wG,qi,QG]at m;rcases m with rfl | rfl
  ·exact .inl rfl
  ·exact .inr ⟨p,!(SqT.of hp)⟩
 | cols ns q=>
  obtain⟨x,rfl,d⟩:=h;intro v m;simp only [wG,qi,QG]at m;rcases m with rfl | rfl
  ·exact .inl rfl
  ·exact .inr ⟨x,!(SqT.of d)⟩
 | table n=>
  intro v m;rw [show xs=_ from h]at m;simp only [wG,qi,QG]at m;rcases m with rfl | rfl <;> exact .inl rfl
 | pair q r=>
  intro v m;rw [show xs=_ from h]at m;simp only [wG,qi,QG]at m;rcases m with rfl <;> exact .inl rfl
 | join a b q r=>
  intro v m;rw [show xs=_ from h]at m;simp only [wG,qi,QG]at m;rcases m with rfl | rfl | rfl <;> exact .inl rfl
 | both q r=>
  intro v m;rw [show xs=_ from h]at m;simp only [wG,qi,QG]at m;rcases m with rfl <;> exact .inl rfl
 | first n q=>
  intro v m;rw [show xs=_ from h]at m;simp only [wG,qi,QG]at m;rcases m with rfl | rfl <;> exact .inl rfl
 | group a b n s q=>
  intro v m;rw [show xs=_ from h]at m;simp only [wG,qi,QG]at m;rcases m with rfl | rfl | rfl | rfl | rfl <;> exact .inl rfl
 | sort a q=>
  intro v m;rw [show xs=_ from h]at m;simp only [wG,qi,QG]at m;rcases m with rfl | rfl <;> exact .inl rfl
theorem zde{a:Str}(h:kN H q xs):xs=(["sort",a]:List Str).map V.str↔∃r,q= .sort a r:=by
 constructor
 ·intro e;obtain⟨r,c⟩:=z0m h;rw [e]at c;have d:ya q="sort":=by
   have:=(List.cons.inj c).1
   injection this with this
   exact this.symm
  obtain⟨b,t,rfl⟩:=z2p d;rw [show xs=_ from h]at e;have:=(List.cons.inj (List.cons.inj e).2).1
  injection this with this
  rw [this];exact⟨t,rfl⟩
 ·rintro⟨r,rfl⟩;exact h
inductive spTurned (C:Addr) (vs:List V) (H:Hp) (Q:VK) (E:XK):Prop
 | mk:∀th q v,vs= [v]->wfQ th q->jP th C H q v->zbh th C H (kD th q) Q->spTurned C vs H Q E
theorem z5l:FnScope ["place","word"] ["place"] (zi z4j):=by walk_at "s"
theorem za2(F:Fun K "turned" "turned" z4j f fd)(T:Txt K mg)(j:PC K C)(o:KnC P w K mg base 1 "Place" ["self","ahead","heads","within"] (spPInit K C) C)(i:Kn P w K mg base 8 "turned_pick" ["place"] (spTurnedPick C))(d:Kn P w K mg base 3 "turned_first" ["place"] (spTurnedFirst C)):FnOk P w K mg base CX0 9 f fd ["place"] (spTurned C):=by
 refine F.okB z5l (λvs H Q E h=> ?_) (λvs H Q E h=> ?_)
 ·obtain⟨th,q,v,rfl,_⟩:=h
  rfl
 obtain⟨th,q,v,rfl,wf,hp,u,p⟩:=h;obtain⟨ws,⟨a,ah,hd,wl,dx,qv,b,xs,rfl,nd⟩,z⟩:=zV.mp hp;obtain⟨X,L⟩:=z0m nd.ahx;intro ac A outer S hr;have O:=z3w hr;refine⟨_,(zc (seT 1 z5l (ixT (zz v0 rfl) za))
  (zc (zD (cmT zM v1 zo)
   (zf (zr (zQ i hr.m (zb v0 ze))))
   zv)
  (zc (zD (cmT zM v1 zo)
   (zf (zr (zQ d hr.m (zb v0 ze))))
   zv)
  (zc (zD (PW.pt (z1K (cmT zM v1 zo) (z26 (cmT zM (ixT (zz (ixL (zz v0 rfl) za) rfl) za) zo))))
   (zf (zr (yp o hr.m rfl (zN (zz v0 rfl) (zN (zz v0 rfl) (zN (zz (ixL (zz v0 rfl) za) rfl) ze))))))
   zv)
  (zc (zD (PW.pt (z1K (cmT zM v1 zo) (z26 (cmT (zb5 (K:=K) rfl O) (zz (ixL (zz v0 rfl) za) rfl) (zz v0 rfl)))))
   (zf (zr (ixL (zz v0 rfl) za)))
   zv)
  (zf (zr z0V))))))),?_⟩
 generalize hK0:K=K1;generalize hK1:C=C1
 revert C1
 revert K1
 refine z0f (by walk_at "cl") ?_;refine !(yH j nd.me (zh nd.ahd (by rw [L];exact zH) ?_));refine !⟨rfl,!?_⟩;rw [zY];by_cases h1:ya q="pick"
 ·refine ifT (wL h1) ?_;obtain⟨c,r,rfl⟩:=z0x h1;exact !⟨th,c,r,_,rfl,wf.1,wf.2.1,hp,u,p⟩
 refine ifF (wH h1) ?_;refine !⟨rfl,!?_⟩;rw [zY];by_cases h2:ya q="first"
 ·refine ifT (wL h2) ?_;obtain⟨n,r,rfl⟩:=z1X h2;exact !⟨th,n,r,_,rfl,hp,u,p⟩
 refine ifF (wH h2) ?_;refine !⟨rfl,!?_⟩;rw [zY];by_cases h3:ya q="cols"
 ·refine ifT (wL h3) ?_;obtain⟨ns,r,rfl⟩:=z1m h3;obtain⟨w2,R,rfl,s,rfl⟩:=id z;obtain⟨us,⟨a2,y,I,M,N,G,b2,D,rfl,l⟩,B⟩:=zV.mp s;obtain⟨U,J⟩:=z0m l.ahx;refine !(yY j nd.me (zu nd.wit zH (yH j l.me (zh l.ahd (by rw [J];exact zH) ⟨rfl,!?_⟩))));rw [zY];by_cases h4:ya r="cols"
  ·refine ifT (wL h4) ?_;obtain⟨Y,t,rfl⟩:=z1m h4;refine !(yH j nd.me (!(z0K j nd.me (!(yY j nd.me (zu nd.wit zH (yY j l.me ?_)))))));exact jF (q:= .cols ns t) (xs:=xs) nd.ahd nd.ahx nd.hds l.wit B λx aj aQ H' s' _ _ pl=>u _ rfl x H' s' pl
  ·refine ifF (wH h4) ?_;refine !⟨rfl,!?_⟩;rw [zY];refine ifF (wH (nb (by kernel_rfl))) ?_;refine p ?_ H (zw.refl _);cases r <;> first | rfl | exact absurd rfl h4
 refine ifF (wH h3) ?_;refine !⟨rfl,!?_⟩;rw [zY];by_cases h4:ya q="sort"
 ·refine ifT (wL h4) ?_;obtain⟨n,r,rfl⟩:=z2p h4;obtain⟨w2,R,rfl,s,rfl⟩:=id z;obtain⟨us,⟨a2,y,I,M,N,G,b2,D,rfl,l⟩,B⟩:=zV.mp s;have ex:xs=(["sort",n]:List Str).map V.str:=nd.ahx;refine !(yY j nd.me (zu nd.wit zH (yH j l.me (!(yH j nd.me ⟨y,ah,D,["sort",n],rfl,rfl,SqT.of l.ahd,SqT.of (by rw [<-ex];exact nd.ahd),zda l.ahx,λt ht=>!?_⟩)))));have hs:=zde (a:=n) l.ahx;by_cases h5:t=true
  ·refine ifT h5 ?_;obtain⟨t',rfl⟩:=hs.mp (ht.mp h5);refine !(yY j nd.me (zu nd.wit zH ?_));exact u (.sort n t') (by show(if n=n then _ else _)=_;rw [wY rfl]) a2 H (zw.refl _) s
  ·refine ifF (Qu.mpr h5) ?_;refine p ?_ H (zw.refl _);cases r with
   | sort m t'=>
    show(if m=n then _ else _)=_
    rw [wM λe=>h5 (ht.mpr (hs.mpr ⟨t',by rw [e]⟩))]
   | _=>rfl
 refine ifF (wH h4) ?_;refine p ?_ H (zw.refl _);cases q <;> first | rfl | exact absurd rfl h1 | exact absurd rfl h2 | exact absurd rfl h3 | exact absurd rfl h4
theorem z6Q(h:ya q="table"):∃n,q= .table n:=by
 cases q <;> first | exact⟨_,rfl⟩ | exact absurd h (Q2 (by kernel_rfl))
theorem z7M(h:ya q="pair"):∃r s,q= .pair r s:=by
 cases q <;> first | exact⟨_,_,rfl⟩ | exact absurd h (Q2 (by kernel_rfl))
theorem z7L(h:ya q="join"):∃a b r s,q= .join a b r s:=by
 cases q <;> first | exact⟨_,_,_,_,rfl⟩ | exact absurd h (Q2 (by kernel_rfl))
theorem z8p(h:ya q="both"):∃r s,q= .both r s:=by
 cases q <;> first | exact⟨_,_,rfl⟩ | exact absurd h (Q2 (by kernel_rfl))
theorem z6J(h:ya q="group"):∃a b n s r,q= .group a b n s r:=by
 cases q <;> first | exact⟨_,_,_,_,_,rfl⟩ | exact absurd h (Q2 (by kernel_rfl))
theorem z6T:∀{ns a:List Str},ns.map V.str=a.map V.str->ns=a
 | [],[],_=>rfl
 | [],_ :: _,h=>by cases h
 | _ :: _,[],h=>by cases h
 | n :: ns,m :: a,h=>by
  rw [qC,qC]at h
  injection h with h1 h2
  injection h1 with h1
  rw [h1,z6T h2]
theorem z2D{a b:Side}(h:a.v=b.v):a=b:=by
 cases a <;> cases b <;> first | (injection h with h;rw [h]) | cases h
theorem z19{d:Cond}{v:V}(h:zC H c v)(g:zC H d v):wordOf c=wordOf d:=by
 obtain⟨p,ys,rfl,hp⟩:=z0u h;obtain⟨p',a,e,a9⟩:=z0u g;cases e;rw [hp]at a9
 injection a9 with a9
 injection a9 with a9
 injection a9 with a9 _
 injection a9 with a9
theorem zbD:∀{d:Cond} {v:V},zC H c v->zC H d v->c=d:=by
 induction c with
 | less a b=>
  intro d' v h g;have f:=z19 h g;cases d' with
  | less a' b'=>
   obtain⟨p,rfl,hp⟩:=h;obtain⟨p',e,a9⟩:=g;cases e;rw [hp]at a9
   injection a9 with a9
   injection a9 with a9
   injection a9 with _ a9
   injection a9 with h1 a9
   injection a9 with h2 _
   rw [z2D h1,z2D h2]
  | _=>exact absurd f (Q2 (by kernel_rfl))
 | same a b=>
  intro d' v h g;have f:=z19 h g;cases d' with
  | same a' b'=>
   obtain⟨p,rfl,hp⟩:=h;obtain⟨p',e,a9⟩:=g;cases e;rw [hp]at a9
   injection a9 with a9
   injection a9 with a9
   injection a9 with _ a9
   injection a9 with h1 a9
   injection a9 with h2 _
   rw [z2D h1,z2D h2]
  | _=>exact absurd f (Q2 (by kernel_rfl))
 | no c q=>
  intro d' v h g;have f:=z19 h g;cases d' with
  | no c'=>
   obtain⟨p,x,rfl,hp,h1⟩:=h;obtain⟨p',o,e,a9,l⟩:=g;cases e;rw [hp]at a9
   injection a9 with a9
   injection a9 with a9
   injection a9 with _ a9
   injection a9 with e1 _
   subst e1;rw [q h1 l]
  | _=>exact absurd f (Q2 (by kernel_rfl))
 | an c d i j=>
  intro d' v h g;have f:=z19 h g;cases d' with
  | an c' d'=>
   obtain⟨p,x,y,rfl,hp,h1,h2⟩:=h;obtain⟨p',o,r,e,a9,l,n⟩:=g;cases e;rw [hp]at a9
   injection a9 with a9
   injection a9 with a9
   injection a9 with _ a9
   injection a9 with e1 a9
   injection a9 with e2 _
   subst e1 e2;rw [i h1 l,j h2 n]
  | _=>exact absurd f (Q2 (by kernel_rfl))
 | or c d i j=>
  intro d' v h g;have f:=z19 h g;cases d' with
  | or c' d'=>
   obtain⟨p,x,y,rfl,hp,h1,h2⟩:=h;obtain⟨p',o,r,e,a9,l,n⟩:=g;cases e;rw [hp]at a9
   injection a9 with a9
   injection a9 with a9
   injection a9 with _ a9
   injection a9 with e1 a9
   injection a9 with e2 _
   subst e1 e2;rw [i h1 l,j h2 n]
  | _=>exact absurd f (Q2 (by kernel_rfl))
theorem z5V{v:V}(h:QAt H q v):∃p xs kv,v= .ref p/\H p=some (.tup (xs ++ kv))/\kN H q xs/\yr H (kids q) kv:=by
 cases q with
 | table n=>obtain⟨p,rfl,hp⟩:=h;exact⟨p,_,[],rfl,hp,rfl,rfl⟩
 | pick c q=>obtain⟨p,x,y,rfl,hp,e,d⟩:=h;exact⟨p,[_,_],[y],rfl,hp,⟨x,rfl,e⟩,y,[],rfl,d,rfl⟩
 | cols ns q=>obtain⟨p,x,y,rfl,hp,e,d⟩:=h;exact⟨p,[_,_],[y],rfl,hp,⟨x,rfl,e⟩,y,[],rfl,d,rfl⟩
 | first n q=>obtain⟨p,y,rfl,hp,d⟩:=h;exact⟨p,[_,_],[y],rfl,hp,rfl,y,[],rfl,d,rfl⟩
 | group a b n s q=>obtain⟨p,y,rfl,hp,d⟩:=h;exact⟨p,[_,_,_,_,_],[y],rfl,hp,rfl,y,[],rfl,d,rfl⟩
 | sort a q=>obtain⟨p,y,rfl,hp,d⟩:=h;exact⟨p,[_,_],[y],rfl,hp,rfl,y,[],rfl,d,rfl⟩
 | pair q r=>obtain⟨p,x,y,rfl,hp,e,d⟩:=h;exact⟨p,[_],[x,y],rfl,hp,rfl,x,[y],rfl,e,y,[],rfl,d,rfl⟩
 | join a b q r=>obtain⟨p,x,y,rfl,hp,e,d⟩:=h;exact⟨p,[_,_,_],[x,y],rfl,hp,rfl,x,[y],rfl,e,y,[],rfl,d,rfl⟩
 | both q r=>obtain⟨p,x,y,rfl,hp,e,d⟩:=h;exact⟨p,[_],[x,y],rfl,hp,rfl,x,[y],rfl,e,y,[],rfl,d,rfl⟩
theorem z0p{r:Qn}{v:V}(h:QAt H q v)(g:QAt H r v):ya r=ya q:=by
 obtain⟨p,xs,kv,rfl,hp,ha,_⟩:=z5V h;obtain⟨p',b,c,e,a9,a,_⟩:=z5V g;cases e;obtain⟨z,rfl⟩:=z0m ha;obtain⟨z',rfl⟩:=z0m a;rw [hp,List.cons_append,List.cons_append]at a9
 injection a9 with a9
 injection a9 with a9
 injection a9 with a9 _
 injection a9 with a9
 exact a9.symm
theorem zf0:∀{r:Qn} {v:V},QAt H q v->QAt H r v->q=r:=by
 induction q with
 | table n=>
  intro r' v h g;obtain⟨u,rfl⟩:=z6Q (z0p h g);obtain⟨p,rfl,hp⟩:=h;obtain⟨p',e,a9⟩:=g;cases e;rw [hp]at a9;cases a9
  rfl
 | pick c q l=>
  intro r' v h g;obtain⟨c',q',rfl⟩:=z0x (z0p h g);obtain⟨p,x,y,rfl,hp,h1,h2⟩:=h;obtain⟨p',t,o,e,a9,f,d⟩:=g;cases e;rw [hp]at a9;cases a9;rw [zbD h1 f,l h2 d]
 | cols ns q l=>
  intro r' v h g;obtain⟨w,q',rfl⟩:=z1m (z0p h g);obtain⟨p,x,y,rfl,hp,h1,h2⟩:=h;obtain⟨p',t,o,e,a9,f,d⟩:=g;cases e;rw [hp]at a9;cases a9;rw [h1]at f
  injection f with f
  injection f with f
  rw [z6T f,l h2 d]
 | pair q r i j=>
  intro r' v h g;obtain⟨q',r',rfl⟩:=z7M (z0p h g);obtain⟨p,x,y,rfl,hp,h1,h2⟩:=h;obtain⟨p',t,o,e,a9,f,d⟩:=g;cases e;rw [hp]at a9;cases a9;rw [i h1 f,j h2 d]
 | join a b q r i j=>
  intro r' v h g;obtain⟨a',b',q',r',rfl⟩:=z7L (z0p h g);obtain⟨p,x,y,rfl,hp,h1,h2⟩:=h;obtain⟨p',t,o,e,a9,f,d⟩:=g;cases e;rw [hp]at a9;cases a9;rw [i h1 f,j h2 d]
 | both q r i j=>
  intro r' v h g;obtain⟨q',r',rfl⟩:=z8p (z0p h g);obtain⟨p,x,y,rfl,hp,h1,h2⟩:=h;obtain⟨p',t,o,e,a9,f,d⟩:=g;cases e;rw [hp]at a9;cases a9;rw [i h1 f,j h2 d]
 | first n q l=>
  intro r' v h g;obtain⟨u,q',rfl⟩:=z1X (z0p h g);obtain⟨p,y,rfl,hp,h2⟩:=h;obtain⟨p',o,e,a9,d⟩:=g;cases e;rw [hp]at a9;cases a9;rw [l h2 d]
 | group a b n s q l=>
  intro r' v h g;obtain⟨a',b',u,s',q',rfl⟩:=z6J (z0p h g);obtain⟨p,y,rfl,hp,h2⟩:=h;obtain⟨p',o,e,a9,d⟩:=g;cases e;rw [hp]at a9;cases a9;rw [l h2 d]
 | sort a q l=>
  intro r' v h g;obtain⟨a',q',rfl⟩:=z2p (z0p h g);obtain⟨p,y,rfl,hp,h2⟩:=h;obtain⟨p',o,e,a9,d⟩:=g;cases e;rw [hp]at a9;cases a9;rw [l h2 d]
theorem NodeAt.ev{a hd:Addr}{b1:Bool}(e:Ev th C H H1)(h:NodeAt th C H q a ws ah hd wl dx qv b xs)(h1:H1 a=some (.ins C dx (jD ah hd wl qv b1)))(o:b1=b\/nf th q):NodeAt th C H1 q a ws ah hd wl dx qv b1 xs:=by
 have c:∀b xs,H b=some (.tup xs)->H1 b=some (.tup xs):=λb xs z=>e.tup z
 refine⟨h1,e.tup h.ahd,h.ahx.mono c,e.lst h.hds,e.lst h.wit,h.qst.mono c,λz=> ?_⟩;rcases o with rfl | o
 ·exact h.set z
 ·exact o
def Ev.refl(H:Hp):Ev th C H H:=Ev.of (Nt.refl H)
theorem Ev.trans(x:Ev th C H H1)(y:Ev th C H1 H2):Ev th C H H2:=by
 refine⟨λb o e n m=>y.t b o (x.t b o e n m) n m,λa dx ah hd wl qv b e=> ?_⟩;obtain⟨b1,f,c⟩:=x.n a dx ah hd wl qv b e;obtain⟨b2,h,d⟩:=y.n a dx ah hd wl qv b1 f;refine⟨b2,h,?_⟩;rcases d with rfl | ⟨rfl,d⟩
 ·exact c
 ·refine .inr ⟨rfl,λq ws xs nd=> ?_⟩;refine d q ws xs (nd.ev x f ?_);rcases c with rfl | ⟨_,c⟩
  ·exact .inl rfl
  ·exact .inr (c q ws xs nd)
theorem z9A{a hd:Addr}(h:NodeAt th C H q a ws ah hd wl dx qv b xs)(n:nf th q):Ev th C H (upd H a (.ins C dx (jD ah hd wl qv true))):=by
 refine⟨λb' o e _ m=> ?_,λa' aj d c bQ aQ b' e=> ?_⟩
 ·rw [zl λz=>by rw [z,h.me]at e;cases e;exact m _ _ _ rfl];exact e
 ·by_cases z:a'=a
  ·subst z;rw [h.me]at e;have f:dx=aj/\ah=d/\hd=c/\wl=bQ/\qv=aQ/\b=b':=by
    unfold jD at e;simp only [Option.some.injEq,HO.ins.injEq,List.cons.injEq,Prod.mk.injEq,true_and,and_true,V.ref.injEq,V.bl.injEq]at e;exact e
   obtain⟨rfl,rfl,rfl,rfl,rfl,rfl⟩:=f;exact⟨true,zj,.inr ⟨rfl,λq' j i nd=>by rw [zf0 nd.qst h.qst];exact n⟩⟩
  ·exact⟨b',by rw [zl z];exact e,.inl rfl⟩
def z3K(C:Addr)(H:Hp)(u:V):Prop:=∃a dx ah hd wl qv,u= .ref a/\H a=some (.ins C dx (jD ah hd wl qv true))
theorem z3K.ev(e:Ev th C H H1)(h:z3K C H u):z3K C H1 u:=by
 obtain⟨a,dx,ah,hd,wl,qv,rfl,h⟩:=h;obtain⟨b,h1,o⟩:=e.n a dx ah hd wl qv true h;have:b=true:=by
  rcases o with o | o
  ·exact o
  ·exact o.1
 subst this;exact⟨a,dx,ah,hd,wl,qv,rfl,h1⟩
theorem z3K.nf{q:Qn}{u:V}(h:z3K C H u)(p:jP th C H q u):nf th q:=by
 obtain⟨a,dx,ah,hd,wl,qv,rfl,h⟩:=h;obtain⟨ws,⟨a',d,c,bQ,aj,aQ,b,xs,e,nd⟩,_⟩:=zV.mp p;cases e;have e:=nd.me;rw [h]at e;have:b=true:=by
  unfold jD at e;simp only [Option.some.injEq,HO.ins.injEq,List.cons.injEq,Prod.mk.injEq,true_and,and_true,V.ref.injEq,V.bl.injEq]at e;exact e.2.2.2.2.2.symm
 exact nd.set this
def PlJ(th:Str->List Str)(C:Addr)(H:Hp)(q:Qn)(v:V)(j:Nat):Prop:=∃ws,Node th C H q v ws/\jQ th C H (kids q) ws/\∀u∈ws.take j,z3K C H u
theorem PlJ.of{v:V}(h:jP th C H q v):PlJ th C H q v 0:=by
 obtain⟨ws,h1,h2⟩:=zV.mp h;exact⟨ws,h1,h2,λu m=>by rw [w0A]at m;cases m⟩
theorem PlJ.pl{v:V}(h:PlJ th C H q v j):jP th C H q v:=by
 obtain⟨ws,h1,h2,_⟩:=h;exact zV.mpr ⟨ws,h1,h2⟩
theorem PlJ.ev{v:V}(e:Ev th C H H1)(h:PlJ th C H q v j):PlJ th C H1 q v j:=by
 obtain⟨ws,h1,h2,a⟩:=h;exact⟨ws,h1.ev e,h2.ev e,λu m=>(a u m).ev e⟩
def z6p(th:Str->List Str)(C:Addr)(H:Hp):List (Qn×Nat)->List V->Prop
 | [],vs=>vs= []
 | (p,i) :: c,vs=>∃a v us,vs= .ref a :: us/\H a=some (.tup [v,.int (i:Int)])/\PlJ th C H p v i/\z6p th C H c us
theorem z6p.ev(e:Ev th C H H1):∀{c:List (Qn×Nat)} {vs:List V},z6p th C H c vs->z6p th C H1 c vs
 | [],_,h=>h
 | (p,i) :: c,_,⟨a,v,us,b,h1,h2,d⟩=>⟨a,v,us,b,e.tup h1,h2.ev e,d.ev e⟩
theorem z6p.len:∀{c:List (Qn×Nat)} {vs:List V},z6p th C H c vs->vs.length=c.length
 | [],_,h=>by rw [show _= []from h];rfl
 | (p,i) :: c,_,⟨a,v,us,b,_,_,d⟩=>by rw [b,wN,wN,d.len]
theorem z6p.at:∀{c:List (Qn×Nat)} {vs:List V} {j:Nat} {x:V},z6p th C H c vs->vs[j]? =some x->∃p i a v,c[j]? =some (p,i)/\x= .ref a/\H a=some (.tup [v,.int (i:Int)])/\jP th C H p v
 | [],_,_,_,h,e=>by rw [show _= []from h]at e;cases e
 | (p,i) :: c,_,0,_,⟨a,v,us,b,h1,h2,d⟩,e=>by subst b;cases e;exact⟨p,i,a,v,rfl,rfl,h1,h2.pl⟩
 | (p,i) :: c,_,j + 1,_,⟨a,v,us,b,h1,h2,d⟩,e=>by
  subst b;obtain⟨p',f,a',v',z⟩:=d.at (j:=j) (by simpa using e);exact⟨p',f,a',v',by simpa using z.1,z.2⟩
theorem yu:zw (hid H d) H:=λb o e=>by
 by_cases z:b=d
 ·rw [z,yU]at e;cases e
 ·rw [ju z]at e;exact e
theorem z1c(h:zw H H'):zw (hid H d) (hid H' d):=λb o e=>by
 by_cases z:b=d
 ·rw [z,yU]at e;cases e
 ·rw [ju z]at e ⊢;exact h b o e
theorem z24{x:Addr}{o:HO}(n:x≠d):hid (upd H x o) d=upd (hid H d) x o:=by
 funext b
 by_cases z:b=d
 ·subst z;rw [yU,zl n.symm,yU]
 ·rw [ju z];by_cases y:b=x
  ·subst y;rw [zj,zj]
  ·rw [zl y,zl y,ju z]
theorem z7v{o:HO}:hid (upd H d o) d=hid H d:=by
 funext b
 by_cases z:b=d
 ·subst z;rw [yU,yU]
 ·rw [ju z,ju z,zl z]
theorem z6r{x:Addr}{fs gs:List (Str×V)}(h:H x=some (.ins D dx fs))(n:∀ah hd wl qv b,fs≠jD ah hd wl qv b):Ev th C H (upd H x (.ins D dx gs)):=by
 refine⟨λb o e _ m=> ?_,λa aj ah hd wl qv b e=>⟨b,?_,.inl rfl⟩⟩
 ·rw [zl λz=>by rw [z,h]at e;cases e;exact m _ _ _ rfl];exact e
 ·rw [zl λz=>by rw [z,h]at e;injection e with e;injection e with _ _ e;exact n _ _ _ _ _ e];exact e
theorem z8B{q:Str}(t:∀b ps,H b=some (.tbl ps)->H' b=some (.tbl ps))(f:∀b o u,H b=some (.frz o u)->H' b=some (.frz o u))(h:jJ H T lp q):jJ H' T lp q:=by
 rcases h with h | ⟨c,h,oc,vs,k,h2,a⟩
 ·exact .inl (t _ _ h)
 ·exact .inr ⟨c,t _ _ h,oc,vs,k,f _ _ _ h2,a⟩
theorem Ls.tk(t:∀b ps,H b=some (.tbl ps)->H' b=some (.tbl ps))(f:∀b o u,H b=some (.frz o u)->H' b=some (.frz o u))(h:Ls T1 T2 T3 H):Ls T1 T2 T3 H':=⟨z8B t f h.a,z8B t f h.b,z8B t f h.c,h.d12,h.d13,h.d23⟩
theorem Ls.ins{H:Hp}{T1 T2 T3 x D dx:Addr}{fs:List (Str×V)}{o:HO}(h:Ls T1 T2 T3 H)(a:H x=some (.ins D dx fs)):Ls T1 T2 T3 (upd H x o):=
 h.tk (λb ps e=>by rw [zl λz=>by rw [z,a]at e;cases e];exact e) λb o u e=>by rw [zl λz=>by rw [z,a]at e;cases e];exact e
noncomputable def trF(v:V)(al:Addr):List (Str×V):= [("place",v),("above",.ref al)]
theorem z4E{v:V}:∀ah hd wl qv b,trF v al≠jD ah hd wl qv b:=λ_ _ _ _ _ h=>by
 unfold trF jD at h
 injection h with _ h
 injection h with _ h
 cases h
structure TC(K:W.Frag)(D:Addr):Prop where
 cls:Cls K D
 pl:NoAttr K D "place"
 ab:NoAttr K D "above"
theorem zeJ{v:V}:yN "place" v []=([("place",v)]:List (Str×V)):=rfl
theorem zf3{v:V}:yN "above" (.ref al) ([("place",v)]:List (Str×V))=trF v al:=by simp [yN,trF,show("place":Str)≠"above" by decide +kernel]
theorem zbL{v v':V}:yN "place" v' (trF v al)=trF v' al:=by simp [yN,trF]
def zcU{v:V}:(trF v al).lookup ("place":Str)=some v:=rfl
theorem zcE{v:V}:(trF v al).lookup ("above":Str)=some (V.ref al):=by rfl
def z5f{t:Addr}{v:V}(b:TC K D)(h:H t=some (.ins D dx (trF v al)))(q:Q v):∃a' a aj fs v',V.ref t= .ref a'/\H a'=some (.ins a aj fs)/\Cls K a/\NoAttr K a "place"/\fs.lookup ("place":Str)=some v'/\Q v':=⟨t,D,dx,_,_,rfl,h,b.cls,b.pl,zcU,q⟩
def z9z{t:Addr}{v:V}(b:TC K D)(h:H t=some (.ins D dx (trF v al)))(q:Q (.ref al)):∃a' a aj fs v',V.ref t= .ref a'/\H a'=some (.ins a aj fs)/\Cls K a/\NoAttr K a "above"/\fs.lookup ("above":Str)=some v'/\Q v':=⟨t,D,dx,_,_,rfl,h,b.cls,b.ab,zcE,q⟩
structure TrAt(th:Str->List Str)(C D:Addr)(H:Hp)(t al:Addr)(c:List (Qn×Nat))(q:Qn)(v:V)(dx:Addr)(vs:List V):Prop where
 me:H t=some (.ins D dx (trF v al))
 ab:H al=some (.lst vs.reverse)
 up:z6p th C (hid H al) c vs
 pl:jP th C (hid H al) q v
def zbI{th:Str->List Str}{C:Addr}{H:Hp}:∀{qs:List Qn} {ws:List V},z06 (λr u H=>jP th C H r u) H qs ws->jQ th C H qs ws
 | [],_,h=>h
 | _ :: _,_,⟨v,ws,e,h1,h2⟩=>⟨v,ws,e,h1,zbI h2⟩
inductive spPlaceOver (C:Addr) (vs:List V) (H:Hp) (Q:VK) (E:XK):Prop
 | mk:∀th tr q v tp wl ws,vs= [.ref tp,v,.ref wl]->TabOk th tr->jq th tr H tp->QAt H q v->wfQ th q->H wl=some (.lst ws)->jQ th C H (kids q) ws->(∀(x:Addr) (H':Hp),zw H H'->jP th C H' q (.ref x)->Q (.ref x) H')->spPlaceOver C vs H Q E
theorem z2d:FnScope ["tables","question","within","heads"] ["tables","question","within"] (zi z0k):=by walk_at "s"
theorem z59(F:Fun K "place_over" "place_over" z0k f fd)(T:Txt K mg)(R:PC K C)(d:KnC P w K mg base 1 "Place" ["self","ahead","heads","within"] (spPInit K C) C)(c:Kn P w K mg base 3 "heads_at" ["tables","question","within"] (spHeadsAt K)):FnOk P w K mg base CX0 4 f fd ["tables","question","within"] (spPlaceOver C):=by
 refine F.okB z2d (λvs H Q E h=> ?_) (λvs H Q E h=> ?_)
 ·obtain⟨th,tr,q,v,tp,wl,ws,rfl,_⟩:=h
  rfl
 obtain⟨th,tr,q,v,tp,wl,ws,rfl,TT,h4,hq,wf,t,B,fin⟩:=h;obtain⟨p,xs,kv,rfl,hp,M,X⟩:=z5V hq;have hl:=B.len;have bD:=X.len;have lk:=z23 q;have la:=z4z M;intro ac A outer sh hr;refine⟨_,(zc (seT 3 z2d (zQ c hr.m (zb v0 (zb v1 (z0r (jC rfl (CompSc.of (sx:=zi z0k) (NX:= ["tables","question","within","heads"]) (fr:= []) (ix:= []) rfl rfl (by decide +kernel)) (zR v2) (λ_ _ _ _ _ _=>jg) (λ_ _ _ _ _ _=>(z42 (K:=K) rfl v0 rfl))) ze)))))
  (zf (zr (yp d hr.m rfl (zm (jr zdc v1 jX (jH (zp z3b (leN T.len (zb v1 ze)) (leN T.len (zb v2 ze))))) (zb v3 (zb v2 ze))))))),?_⟩
 generalize hK0:K=K1;generalize hK1:C=C1
 revert C1
 revert K1
 refine z0f (by walk_at "cl") ?_;refine !(!(!⟨wl,rfl,⟨_,SqL.of t⟩,?_⟩));refine ja (xs:=ws) (λi ys H'=>H'=H/\ys.length=i/\z06 (zdw th) H ((kids q).take i) ys) ⟨rfl,rfl,by rw [w0A];rfl⟩ ?_ ?_ ?_
 ·rintro i ys H' hi ⟨rfl,o,_⟩;exact⟨SqL.of t,zE (by lia)⟩
 ·rintro i y ys H' hi ⟨rfl,o,hr⟩;have J:i < (kids q).length:=by rw [<-hl];exact(we.mp hi).1
  obtain⟨v,N,pv⟩:=B.at (wa J);rw [hi]at N;cases N;obtain⟨us,⟨a,cX,I,bQ,aj,qv,b,dg,rfl,nd⟩,_⟩:=zV.mp pv;refine !(z0K R nd.me ⟨rfl,by rw [wg,o];rfl,?_⟩);rw [wQ,wa J];exact hr.app ⟨.ref I,[],rfl,⟨I,rfl,nd.hds⟩,rfl⟩
 ·rintro ys H' ⟨rfl,o,hr⟩ np ai;rw [hl,qc]at hr;refine zg (upd _ np _) rfl ai λH1 n x1=> ?_
  refine⟨th,tr,q,.ref p,tp,np,ys,rfl,TT,h4.same n,hq.same n,wf,x1,hr.imp λr u ⟨hp,e,z⟩=>⟨hp,e,n _ _ z⟩,λa9 H2 O G=> ?_⟩;have s2:=n.trans O;have l:=s2 _ _ hp;have s:=s2 _ _ t;refine !(!⟨p,!⟨.inr (SqT.of l),!⟨wl,!⟨.inl (SqL.of s),ex2 rfl rfl (!?_)⟩⟩⟩⟩);have e:HT.sIx (xs ++ kv).length (xs ++ kv).length (some (((xs ++ kv).length:Int) - (ws.length:Int)))=xs.length:=by
   show(if((xs ++ kv).length:Int) - (ws.length:Int) < 0 then _ else min (((xs ++ kv).length:Int) - (ws.length:Int)).toNat (xs ++ kv).length)=_
   rw [wg,wM (by lia)]
   lia
  have L:=B.ev (Ev.of (Nt.of s2));have D:kN H2 q xs:=M.mono λb xs z=>s2 _ _ z
  by_cases hz:kv= []
  ·subst hz;refine .inr ⟨p,!⟨SqT.of l,⟨rfl,by rw [e,Ql]⟩,?_⟩⟩;rw [Ql]at l;refine !(!?_);exact jF (q:=q) (xs:=xs) l D G s L λx aj aQ H' s' _ _ pl=>fin x H' (s2.trans s') pl
  ·refine .inl ⟨p,!⟨SqT.of l,λz=>hz ?_,λS Y=> ?_⟩⟩
   ·have:=z.2;rw [e,wg]at this;exact QL.mp (by lia)
   ·have Z:z1A (xs ++ kv) none (some (((xs ++ kv).length:Int) - (ws.length:Int)))=xs:=by
     unfold z1A;rw [e]
     show((xs ++ kv).drop 0).take (xs.length - 0)=xs
     rw [w1b,Nat.sub_zero,List.take_left']
     rfl
    rw [Z];refine zg (upd _ S _) rfl Y λH3 j x3=> ?_
    have U:=s2.trans j;refine !(!?_);exact jF (q:=q) (xs:=xs) x3 (D.mono λb xs z=>j _ _ z) (j _ _ G) (j _ _ s) (L.ev (Ev.of (Nt.of j))) λx aj aQ H' s' _ _ pl=>fin x H' (U.trans s') pl
noncomputable def z8Q:Pos:=match jO z01 with
 | .Assign _ (.Call _ [_,.Lambda _ _ _ p] _ _) _ :: _=>p
 | _=>⟨0,0,0,0⟩
noncomputable abbrev z9s:Str:=Str.ofString "Turner.__init__" ++ ".<locals>." ++ "<lambda>"
inductive spTInit (C D T1 T2 T3 T4:Addr) (vs:List V) (H:Hp) (Q:VK) (E:XK):Prop
 | mk:∀th tr q v x dx tp,vs= [.ref x,.ref tp,v]->H x=some (.ins D dx [])->TabOk th tr->jq th tr H tp->QAt H q v->wfQ th q->(post q).length<=8000000->jJ H T4 z8Q z9s->Ls T1 T2 T3 H->T4≠T1->T4≠T2->T4≠T3->(∀(v':V) (al:Addr) (H':Hp),(∀b o,b≠x->H b=some o->(∀ps,o≠ .tbl ps)->hid H' al b=some o)->Ls T1 T2 T3 H'->TrAt th C D H' x al [] q v' dx []->Q .non H')->spTInit C D T1 T2 T3 T4 vs H Q E
theorem z4A:FnScope ["self","tables","question"] ["self","tables","question"] (zi z01):=by walk_at "s"
theorem z4L{c:Addr}(F:Fun K "__init__" "Turner.__init__" z01 f fd)(T:Txt K mg)(J:TC K D)(hc:fd.code= .ref c)(CH:PySem.W.CodeHd base c T4)(B:base.BuiltinsAt mg T4)(i:KnS P w K mg base CX0 9 "built_up" ["question","work"] (z45 P w K mg base 8))(d:Kn P w K mg base 4 "place_over" ["tables","question","within"] (spPlaceOver C)):FnOk P w K mg base CX0 10 f fd ["self","tables","question"] (spTInit C D T1 T2 T3 T4):=by
 refine F.okC z4A (λvs H Q E h=> ?_) (λA outer s H vs Q E hr h=> ?_)
 ·obtain⟨th,tr,q,v,x,dx,tp,rfl,_⟩:=h
  rfl
 obtain⟨th,tr,q,v,x,dx,tp,rfl,hx,TT,h4,hq,wf,hsz,G,p,d1,d2,d3,fin⟩:=h;refine⟨_,(zc (z0w (pv 0) (z2o (k:=4) (T:=T4) (c:=c) (j:=1) (a:="part") (b:="within") (y:="tables") i z31 hr rfl (pv 2) hc CH B ⟨rfl,rfl,rfl,rfl,rfl,rfl,by decide +kernel,by decide +kernel,by decide +kernel⟩ (w02 rfl) rfl
  (λ_ _ _ _ _ _ _ _ hl=>z1M d hl rfl (zb (pv 2) (zb (pv 0) (zb (pv 1) ze))))) rfl) (zf (z0w (pv 0) (zF ze) rfl))),?_⟩
 refine !⟨G,.ref tp,rfl,λlf c' H2 s2 I cN W=> ?_⟩;have L:=z8M G I;have O:Ls T1 T2 T3 H2:=⟨z1f G p.a d1 I,z1f G p.b d2 I,z1f G p.c d3 I,p.d12,p.d13,p.d23⟩;refine⟨v,q,lf,_,Ls T1 T2 T3,λr u H=>jP th C H r u,rfl,hq.nt L,hsz,W.mono (by decide),O,λH1 H2 e z=>z.same e,λr u H1 H2 n z=>z.ev (Ev.of n),λr bM X wl ws H3 Q1 n3 L3 fL ar rs k=> ?_,λv' H' n' Y z=> ?_⟩
 ·exact⟨X,.ref wl,rfl,!(!(!⟨th,tr,r,X,tp,wl,ws,rfl,TT,h4.nt (L.trans n3),fL,z6C wf r bM,ar,zbI rs,λx H4 U p4=>k _ _ (Nt.of U) (L3.same U) p4⟩))⟩
 ·have M:=L.trans n';have N:H' x=some (.ins D dx []):=M _ _ hx λ_ z=>by cases z
  refine !⟨x,D,dx,!⟨N,J.cls,J.pl,by show 0 < 1000;decide,?_⟩⟩;rw [zeJ];have Z:Ev th C H' (upd H' x (.ins D dx [("place",v')])):=z6r N λ_ _ _ _ _ z=>by cases z
  refine⟨(zA rfl),λal l=> ?_⟩;have t:al≠x:=λz=>by rw [z,zj]at l;cases l
  have rK:H' al=none:=by rw [zl t]at l;exact l
  refine !⟨x,D,dx,!⟨(by rw [zl t.symm,zj]),J.cls,J.ab,by show 1 < 1000;decide,?_⟩⟩;rw [zf3];refine fin v' al _ (λb o R e n=> ?_) ?_ ⟨zj,by rw [zl t,zj];rfl,rfl,?_⟩
  ·have S:b≠al:=λz=>by rw [z]at e;have:=M _ _ e n;rw [rK]at this;cases this
   rw [ju S,zl R,zl S,zl R];exact M _ _ e n
  ·refine Ls.ins (x:=x) (D:=D) (dx:=dx) (fs:= [("place",v')]) ?_ (by rw [zl t.symm,zj]);exact(Y.ins N).same (zB l _)
  ·rw [z24 t.symm,z44 l];exact(z.ev Z).ev (z6r zj λ_ _ _ _ _ z=>by cases z)
theorem z97{n:Nat}(h:i < n):ixN n (i:Int)=some i:=by
 unfold ixN;rw [wY (by lia),wY (by lia)]
 rfl
inductive spGoW (C D:Addr) (vs:List V) (H:Hp) (Q:VK) (E:XK):Prop
 | mk:∀t dx al a bC ah hd wl us ws qv w b (i:Nat),vs= [.ref t,.int (i:Int)]->H t=some (.ins D dx (trF (.ref a) al))->H al=some (.lst us)->us.length < sizeLine->H a=some (.ins C bC (jD ah hd wl qv b))->H wl=some (.lst ws)->wl≠al->ws[i]? =some w->(∀p,H p=none->Q .non (upd (upd (upd H p (.tup [.ref a,.int (i:Int)])) al (.lst (us ++ [.ref p]))) t (.ins D dx (trF w al))))->spGoW C D vs H Q E
theorem z2b:FnScope ["self","spot"] ["self","spot"] (zi yV):=by walk_at "s"
theorem z2c(F:Fun K "go_within" "Turner.go_within" yV f fd)(T:Txt K mg)(u:PC K C)(c:TC K D):FnOk P w K mg base CX0 1 f fd ["self","spot"] (spGoW C D):=by
 refine F.okB z2b (λvs H Q E h=> ?_) (λvs H Q E h=> ?_)
 ·obtain⟨t,dx,al,a,bC,ah,hd,wl,us,ws,qv,x,b,i,rfl,_⟩:=h
  rfl
 obtain⟨t,dx,al,a,bC,ah,hd,wl,us,ws,qv,x,b,i,rfl,ht,d,r,ha,j,s,hi,fin⟩:=h;intro ac A outer y hr;refine⟨_,(zc (jd (apP (zz v0 rfl) (zZ (zG (zN (zz v0 rfl) (zb v1 ze))) ze)))
  (zf (z0w v0 (ixL (zz (zz v0 rfl) rfl) v1) rfl))),?_⟩
 generalize hK0:K=K1;generalize hK1:C=C1;generalize hK2:D=D1
 revert D1
 revert C1
 revert K1
 refine z5R (by walk_at "cl") ?_;refine !(z9z c ht ⟨.inl ⟨rfl,_,SqL.of d⟩,?_⟩);refine !(z5f c ht (!⟨(zA rfl),λp hp=> ?_⟩));have ne:∀{b:Addr} {o:HO},H b=some o->b≠p:=λ{b o} e z=>by rw [z,hp]at e;cases e
 have q:t≠al:=λz=>by rw [z,d]at ht;cases ht
 have n:a≠al:=λz=>by rw [z,d]at ha;cases ha
 refine⟨al,ex2 rfl rfl ⟨(by rw [zl (ne d)];exact d),r,?_⟩⟩;have l:upd (upd H p (.tup [.ref a,.int (i:Int)])) al (.lst (us ++ [.ref p])) t=some (.ins D dx (trF (.ref a) al)):=by rw [zl q,zl (ne ht)];exact ht
 refine !(z5f c l (yY u (by rw [zl n,zl (ne ha)];exact ha) (!(zu (by rw [zl s,zl (ne j)];exact j) (zW hi) ?_))));refine !⟨t,D,dx,!⟨l,c.cls,c.pl,by show 2 < 1000;decide,?_⟩⟩;rw [zbL];exact fin p hp
theorem zc3{p k:Qn}(h:kN H p xs):kN H (j9 p i k) xs:=by
 cases p with
 | pair q r=>show kN H (if i=0 then _ else _) xs;split <;> exact h
 | join a b q r=>show kN H (if i=0 then _ else _) xs;split <;> exact h
 | both q r=>show kN H (if i=0 then _ else _) xs;split <;> exact h
 | _=>exact h
theorem z6V{hd:Addr}(ha:H ah=some (.tup xs))(s:kN H q xs)(o:H hd=some (.lst ((zd th q).map V.str)))(A:H wl=some (.lst ws))(hp:jQ th C H (kids q) ws)
  (fin:∀(x dx:Addr) (qv:V) (H':Hp),zw H H'->H x=none->NodeAt th C H' q x ws ah hd wl dx qv false xs->R x .non H'):
  ∀x dx,H x=none->H dx=none->dx≠x->spPInit K C (.ref x :: ([.ref ah,.ref hd,.ref wl] ++ [])) (upd (upd H dx (.own x)) x (.ins C dx [])) (R x) E:=by
 intro x dx f u i;obtain⟨p,q',l,aj,h,d,bQ,n,B,e,h1,h2,a,r,w,t⟩:=jF (K:=K) (E:=E) (Q:=λv H'=>∀z,v= .ref z->R z .non H') ha s o A hp (λz aj aQ H' s' hz nd _ y c=>by cases c;exact fin z aj aQ H' s' hz nd) x dx f u i;exact⟨p,q',l,aj,h,d,bQ,n,B,e,h1,h2,a,r,w,λqv H' j b D=>(t qv H' j b D).2 x rfl⟩
def NodeAt.keep{a hd:Addr}(h:NodeAt th C H q a ws ah hd wl dx qv b xs)(k:∀c,c=a\/c=hd\/c=wl->H' c=H c)(t:∀b xs,H b=some (.tup xs)->H' b=some (.tup xs)):NodeAt th C H' q a ws ah hd wl dx qv b xs:=
 ⟨(k _ (.inl rfl)).trans h.me,t _ _ h.ahd,h.ahx.mono t,(k _ (.inr (.inl rfl))).trans h.hds,(k _ (.inr (.inr rfl))).trans h.wit,h.qst.mono t,h.set⟩
inductive spGoB (C D:Addr) (vs:List V) (H:Hp) (Q:VK) (E:XK):Prop
 | mk:∀th q t dx al p a bC ah hd wl us (ws:List V) xs qv v b (i:Nat),vs= [.ref t]->H t=some (.ins D dx (trF v al))->H al=some (.lst (us ++ [.ref p]))->H p=some (.tup [.ref a,.int (i:Int)])->H a=some (.ins C bC (jD ah hd wl qv b))->i < ws.length->wl≠al->hd≠al->H wl=some (.lst ws)->H ah=some (.tup xs)->kN H q xs->H hd=some (.lst ((zd th q).map V.str))->jQ th C (hid H al) (kids q) (ws.set i v)->(∀(x:Addr) (H':Hp),(∀b o,b≠t->b≠al->H b=some o->H' b=some o)->H x=none->H' t=some (.ins D dx (trF (.ref x) al))->H' al=some (.lst us)->(∃bQ aj aQ,NodeAt th C (hid H' al) q x (ws.set i v) ah hd bQ aj aQ false xs)->Q .non H')->spGoB C D vs H Q E
theorem km:FnScope ["self","over","within"] ["self"] (zi kG):=by walk_at "s"
theorem z2M(F:Fun K "go_back" "Turner.go_back" kG f fd)(T:Txt K mg)(M:PC K C)(G:TC K D)(r:KnC P w K mg base 1 "Place" ["self","ahead","heads","within"] (spPInit K C) C):FnOk P w K mg base CX0 3 f fd ["self"] (spGoB C D):=by
 refine F.okB km (λvs H Q E h=> ?_) (λvs H Q E h=> ?_)
 ·obtain⟨th,q,t,dx,al,p,a,bC,ah,hd,wl,us,ws,xs,qv,v,b,i,rfl,_⟩:=h
  rfl
 obtain⟨th,q,t,dx,al,p,a,bC,ah,hd,wl,us,ws,xs,qv,v,b,i,rfl,ht,s,hp,ha,hi,rL,U,ar,R,cg,L,cf,fin⟩:=h;have B:t≠al:=λz=>by rw [z,s]at ht;cases ht
 have I:p≠al:=λz=>by rw [z,s]at hp;cases hp
 have O:a≠al:=λz=>by rw [z,s]at ha;cases ha
 have EE:ah≠al:=λz=>by rw [z,s]at R;cases R
 intro ac A outer sh hr;refine⟨_,(zc (seT 1 km (z4B wU w0v w0w z4e (zz v0 rfl)))
  (zc (seT 2 km (jk yE rfl T.list qJ (zN (zz (ixT v1 za) rfl) ze)))
  (zc (z88 (zz v0 rfl) (z8e v2 (ixT v1 za) set_list))
  (zf (z0w v0 (yp r hr.m rfl (zN (zz (ixT v1 za) rfl) (zN (zz (ixT v1 za) rfl) (zb v2 ze)))) rfl))))),?_⟩
 generalize hK0:K=K1;generalize hK1:C=C1;generalize hK2:D=D1
 revert D1
 revert C1
 revert K1
 refine z5R (by walk_at "cl") ?_;refine !(z9z G ht ⟨.inl ⟨rfl,_,SqL.of s⟩,al,_,.ref p,rfl,rfl,s,z2T _ _,?_⟩);rw [w0B];have d:∀{b:Addr} {o:HO},b≠al->H b=some o->upd H al (.lst us) b=some o:=λ{b o} n e=>by rw [zl n];exact e
 have N:upd H al (.lst us) al=some (.lst us):=zj;have lU:hid (upd H al (.lst us)) al=hid H al:=z7v;generalize upd H al (.lst us)=H1 at d N lU ⊢;refine !(zh (d I hp) zH (yY M (d O ha) ⟨wl,!⟨.inl (SqL.of (d rL ar)),λl cq=> ?_⟩⟩));refine zg (upd _ l _) rfl cq λH2 J x2=> ?_
 refine !(z5f G (J _ _ (d B ht)) (!(!(zh (J _ _ (d I hp)) j8 ⟨l,_,_,i,rfl,rfl,x2,?_,?_⟩))))
 ·exact z97 hi
 have u:H1 l=none:=cq;have n3:∀b o,H1 b=some o->upd H2 l (.lst (ws.set i v)) b=some o:=λb o e=>by rw [zl λz=>by rw [z,u]at e;cases e];exact J _ _ e
 have x3:upd H2 l (.lst (ws.set i v)) l=some (.lst (ws.set i v)):=zj;generalize upd H2 l (.lst (ws.set i v))=H3 at n3 x3 ⊢;have j:zw H1 H3:=n3;have AF:zw (hid H al) (hid H3 al):=by rw [<-lU];exact z1c j
 refine !(zh (j _ _ (d I hp)) zH (yH M (j _ _ (d O ha)) ?_));refine !(zh (j _ _ (d I hp)) zH (z0K M (j _ _ (d O ha)) (!?_)));have tt:∀b xs,H b=some (.tup xs)->H3 b=some (.tup xs):=λb xs e=>j _ _ (d (λz=>by rw [z,s]at e;cases e) e)
 have fx:∀{b:Addr},H3 b=none->H b=none\/b=al:=λ{b} e=>by
  by_cases z:b=al
  ·exact .inr z
  ·refine .inl ?_;cases e2:H b with
   | none=>rfl
   | some o=>have:=j _ _ (d z e2);rw [e]at this;cases this
 refine z6V (th:=th) (q:=q) (xs:=xs) (tt _ _ R) (cg.mono tt) (j _ _ (d U L)) x3 ((cf.ev (Ev.of (Nt.of AF))).ev (Ev.of (Nt.of yu))) λx aj aQ H4 S y nd=>⟨rfl,?_⟩
 have uJ:=j _ _ N;have Z:x≠al:=λz=>by rw [z,uJ]at y;cases y
 have X:=j _ _ (d B ht);have AG:x≠t:=λz=>by rw [z,X]at y;cases y
 have Y:=S _ _ uJ;have eN:=S _ _ X;have AH:l≠al:=λz=>by rw [z,N]at u;cases u
 have AI:l≠t:=λz=>by rw [z,d B ht]at u;cases u
 have AJ:hd≠t:=λz=>by rw [z,ht]at L;cases L
 refine !⟨t,D,dx,!⟨eN,G.cls,G.pl,by show 2 < 1000;decide,?_⟩⟩;rw [zbL];refine fin x _ (λb o h1 h2 e=> ?_) ?_ zj (by rw [zl B.symm];exact Y) ⟨l,aj,aQ,?_⟩
 ·rw [zl h1];exact S _ _ (j _ _ (d h2 e))
 ·rcases fx y with z | z
  ·exact z
  ·exact absurd z Z
 ·rw [z24 B];refine nd.keep (λc hc=> ?_) λb ys e=> ?_
  ·rcases hc with rfl | rfl | rfl
   ·rw [zl AG,ju Z]
   ·rw [zl AJ,ju U]
   ·rw [zl AI,ju AH]
  ·rw [zl (λz=>by rw [z,eN]at e;cases e),ju (λz=>by rw [z,Y]at e;cases e)];exact e
structure Step(th:Str->List Str)(C:Addr)(H H':Hp)(al:Addr):Prop where
 ev:Ev th C (hid H al) (hid H' al)
 tb:∀b ps,H b=some (.tbl ps)->H' b=some (.tbl ps)
def Step.refl:Step th C H H al:=⟨Ev.refl _,λ_ _ e=>e⟩
theorem Step.trans(a:Step th C H H1 al)(b:Step th C H1 H2 al):Step th C H H2 al:=⟨a.ev.trans b.ev,λx ps e=>b.tb x ps (a.tb x ps e)⟩
theorem Step.same(a:zw H H1):Step th C H H1 al:=⟨Ev.of (Nt.of (z1c a)),λ_ _ e=>a _ _ e⟩
theorem Step.ls(a:Step th C H H1 al)(h:Ls T1 T2 T3 H)(ha:H al=some (.lst us)):Ls T1 T2 T3 H1:=
 h.tk a.tb λb o u e=>yu _ _ (a.ev.t b _ (by rw [ju λz=>by rw [z,ha]at e;cases e];exact e) (λ_ z=>by cases z) λ_ _ _ z=>by cases z)
theorem TrAt.same{t:Addr}{c:List (Qn×Nat)}{v:V}(h:TrAt th C D H t al c q v dx vs)(s:zw H H1):TrAt th C D H1 t al c q v dx vs:=
 ⟨s _ _ h.me,s _ _ h.ab,h.up.ev (Ev.of (Nt.of (z1c s))),h.pl.ev (Ev.of (Nt.of (z1c s)))⟩
theorem TrAt.ne{t:Addr}{c:List (Qn×Nat)}{v:V}(h:TrAt th C D H t al c q v dx vs):t≠al:=λz=>by
 have:=h.me;rw [z,h.ab]at this;cases this
theorem take_set{ws:List α}{v u:α}(m:u∈(ws.set i v).take (i + 1)):u=v\/u∈ws.take i:=by
 rw [wQ]at m;rcases wB.mp m with m | m
 ·rw [List.take_set_of_le (ww i)]at m;exact .inr m
 ·by_cases h:i < ws.length
  ·rw [w0T h]at m;exact .inl (by simpa using m)
  ·rw [w14 (by rw [List.length_set];lia)]at m;cases m
theorem z4M{b:Addr}{o:HO}(h:hid H al b=some o):b≠al:=λz=>by rw [z,yU]at h;cases h
theorem zd2{t:Addr}{v:V}(h:H t=some (.ins D dx (trF v al)))(k:∀b o,b≠t->b≠al->H b=some o->H' b=some o)(ha:H al=some (.lst us)):Step th C H H' al:=by
 have kk:∀b o,b≠t->hid H al b=some o->hid H' al b=some o:=λb o n e=>by
  have nb:=z4M e;rw [ju nb];exact k b o n nb (yu _ _ e)
 refine⟨⟨λb o e _ m=>kk b o (λz=> ?_) e,λa aj ah hd wl qv b e=>⟨b,kk a _ (λz=> ?_) e,.inl rfl⟩⟩,λb ps e=>k b _ (λz=> ?_) (λz=> ?_) e⟩
 ·have:=yu _ _ e;rw [z,h]at this;cases this;exact m _ _ _ rfl
 ·have:=yu _ _ e;rw [z,h]at this
  injection this with this
  injection this with _ _ this
  exact z4E _ _ _ _ _ this
 ·rw [z,h]at e;cases e
 ·rw [z,ha]at e;cases e
theorem z9r{th:Str->List Str}{C:Addr}{H:Hp}:∀{qs:List Qn} {ws:List V},jQ th C H qs ws->(∀u∈ws,z3K C H u)->∀k∈qs,nf th k
 | [],_,_,_,_,m=>by cases m
 | q :: qs,_,⟨v,ws,e,h1,h2⟩,hs,k,m=>by
  subst e;rcases wG.mp m with rfl | m
  ·exact(hs v (qy ..)).nf h1
  ·exact z9r h2 (λu m=>hs u (wX _ m)) k m
def UnV(C:Addr)(H:Hp)(u:V):Prop:=∃a dx ah hd wl qv,u= .ref a/\H a=some (.ins C dx (jD ah hd wl qv false))
theorem UnV.not(h:UnV C H u):¬z3K C H u:=by
 rintro⟨a,dx,ah,hd,wl,qv,rfl,e⟩;obtain⟨a',aj,d,c,bQ,aQ,z,b⟩:=h;cases z;rw [e]at b;unfold jD at b;simp at b
inductive spTurn (C D:Addr) (vs:List V) (H:Hp) (Q:VK) (E:XK):Prop
 | mk:∀th tr t al dx c q v us,vs= [.ref t]->TabOk th tr->TrAt th C D H t al c q v dx us->kE th c q->wfQ th (y0 c q)->wt (y0 c q)<=8000000->(∀(r:Bool) (H':Hp) (c':List (Qn×Nat)) (q':Qn) (v':V) (nH:List V),Step th C H H' al->TrAt th C D H' t al c' q' v' dx nH->kE th c' q'->((r=true/\Eqv th tr (y0 c q) (y0 c' q')/\mu th (y0 c' q') < mu th (y0 c q)/\wt (y0 c' q')<=wt (y0 c q))\/(r=false/\y0 c' q'=y0 c q/\nf th (y0 c' q')))->Q (.bl r) H')->spTurn C D vs H Q E
structure TrIn(th:Str->List Str)(C D:Addr)(H H1:Hp)(w:Qn)(t al dx:Addr)(c:List (Qn×Nat))(q:Qn)(us ws xs:List V)(a ah hd wl bC:Addr)(qv:V)(b:Bool)(j:Nat):Prop where
 tr:TrAt th C D H1 t al c q (.ref a) dx us
 ok:kE th c q
 same:y0 c q=w
 step:Step th C H H1 al
 nd:NodeAt th C (hid H1 al) q a ws ah hd wl bC qv b xs
 kd:jQ th C (hid H1 al) (kids q) ws
 st:∀u∈ws.take j,z3K C (hid H1 al) u
theorem kA:FnScope ["self","place","unsettled","other"] ["self"] (zi yP):=by walk_at "s"
theorem z4k(F:Fun K "turn" "Turner.turn" yP f fd)(T:Txt K mg)(M:TxtM K mg)(PK:PC K C)(TK:TC K D)(B:KnM P w K mg base 3 "go_back" ["self"] (spGoB C D) D)(n:KnM P w K mg base 1 "go_within" ["self","spot"] (spGoW C D) D)(S:Kn P w K mg base 9 "turned" ["place"] (spTurned C)):FnOk P w K mg base CX0 10 f fd ["self"] (spTurn C D):=by
 refine F.okB kA (λvs H Q E h=> ?_) (λvs H Q E h=> ?_)
 ·obtain⟨th,tr,t,al,dx,c,q,v,us,rfl,_⟩:=h
  rfl
 obtain⟨th,tr,t,al,dx,c,q,v,us,rfl,TT,eO,lK,AK,AL,fin⟩:=h;intro ac A outer sh hr;refine⟨_,(zc (z7h (z1k (z1H (zz v0 rfl) (λ_=>rfl)) (ym (ji (zz (zz v0 rfl) rfl))))
   (zc (seT 1 kA (zz v0 rfl))
   (zc (z6K (j:=2) rfl kA.nd rfl (w02 rfl) (CompScG.of (sx:=zi yP) (NX:= ["self","place","unsettled","other"]) (xs:= ["spot","inner"]) (fr:= []) (ix:= []) rfl rfl (by decide +kernel)) (zcP rfl M.enumerate (zN (zz v1 rfl) ze)) (zei rfl (CompScG.of (sx:=zi yP) (NX:= ["self","place","unsettled","other"]) (xs:= ["spot","inner"]) (fr:= []) (ix:= []) rfl rfl (by decide +kernel)) (by rfl) (by rfl)) (λ_ _ _ _ _ _=>(z29 (ym (ji (z42 (K:=K) rfl v1 rfl))))) (λ_ _ _ _ _ _=>v0))
   (zf (zD (ji (zz v1 rfl))
    (zf (jd (z3k B hr.m v0)))
    (zf (zD (z1H v2 (λ_=>rfl))
     (zf (jd (zb1 n hr.m v0 (zm (ixL v2 za) ze))))
     (zc (seT 3 kA (zaN S hr.m rfl (zb v1 ze)))
     (zc (zD (cmT z6D v3 z0V)
      (zc (z0w v0 v3 rfl)
      (zf (zr yd)))
      zv)
     (zf (z0w v1 yd rfl)))))))))))
  (zf (zr yd))),?_⟩
 generalize hK0:K=K1;generalize hK1:C=C1;generalize hK2:D=D1
 revert D1
 revert C1
 revert K1
 refine z5R (by walk_at "cl") ?_;obtain⟨uL,⟨a0,uM,uN,uO,uP,rP,b0,uQ,rfl,nI⟩,uR⟩:=zV.mp eO.pl;refine z0P (λm σ H1=>∃G s O ws xs a ah hd wl bC qv b j o1 o2 o3,σ= [some (.ref t),o1,o2,o3]/\TrIn th C D H H1 (y0 c q) t al dx G s O ws xs a ah hd wl bC qv b j/\m=(if b=true then 1 else 2 + rest s j) + budget G)
  _ ⟨c,q,us,uL,uQ,a0,uM,uN,uO,uP,rP,b0,0,none,none,none,rfl,⟨eO,lK,rfl,.refl,nI,uR,λu m=>by rw [w0A]at m;cases m⟩,rfl⟩ ?_
 rintro m σ H1 ⟨G,s,O,ws,xs,a,ah,hd,wl,bC,qv,b,j,o1,o2,o3,rfl,R,rfl⟩;have me:=yu _ _ R.nd.me;refine !(z9z TK R.tr.me ⟨_,.inl ⟨_,SqL.of R.tr.ab,rfl⟩,?_⟩);refine⟨not b,(!(z5f TK R.tr.me (zaO PK me (!⟨rfl,rfl⟩)))),?_⟩;by_cases hx:O= []/\b=true
 ·obtain⟨rfl,rfl⟩:=hx;refine ifF (by rfl) ?_;have ec:G= []:=QL.mp (by rw [<-R.tr.up.len];rfl);subst ec;exact fin false H1 [] s _ _ R.step R.tr R.ok (.inr ⟨rfl,R.same,R.nd.set rfl⟩)
 refine ifT ?_ ?_
 ·cases b with
  | false=>simp
  | true=>
   cases O with
   | nil=>exact absurd ⟨rfl,rfl⟩ hx
   | cons x r=>simp
 refine⟨_,λσ' H' z=>z,?_⟩;refine !(z5f TK R.tr.me ?_);have wit:=yu _ _ R.nd.wit;have rE:=R.kd.len;have lk:=z23 s;refine !(yY PK me ⟨wl,rfl,⟨_,SqL.of wit⟩,?_⟩);refine z9L (ys:=ws) (λi zs H'=>zw H1 H'/\zs.length<=i/\((zs= []/\∀u∈ws.take i,z3K C (hid H1 al) u)\/∃(k:Nat) (w:V) (r:List V),zs= .int (k:Int) :: r/\ws[k]? =some w/\UnV C (hid H1 al) w/\∀u∈ws.take k,z3K C (hid H1 al) u))
  ⟨zw.refl _,ww _,.inl ⟨rfl,λu m=>by rw [w0A]at m;cases m⟩⟩ ?_ ?_ ?_
 ·rintro i zs H' hi ⟨s',hz,_⟩;exact⟨SqL.of (s' _ _ wit),zE (by lia)⟩
 ·rintro i y zs H' p hi ⟨s',hz,o⟩ hp;have s2:=s'.trans (zB hp (.tup [.int (i:Int),y]));have cs:i < (kids s).length:=by rw [<-rE];exact(we.mp hi).1
  obtain⟨v,hv,pv⟩:=R.kd.at (wa cs);rw [hi]at hv;cases hv;obtain⟨eA,⟨a2,Z,ba,cV,ci,bT,b2,cI,rfl,J⟩,_⟩:=zV.mp pv;refine !(zaO PK (s2 _ _ (yu _ _ J.me)) (!?_));cases b2 with
  | false=>
   refine ifT rfl (!⟨s2,by rw [wg];simp;lia,?_⟩);rcases o with⟨rfl,all⟩ | ⟨k,w,r,rfl,h1,h2,h3⟩
   ·exact .inr ⟨i,_,[],rfl,hi,⟨a2,ci,Z,ba,cV,bT,rfl,J.me⟩,all⟩
   ·exact .inr ⟨k,w,r ++ [.int (i:Int)],rfl,h1,h2,h3⟩
  | true=>
   refine ifF rfl ⟨s2,by lia,?_⟩;rcases o with⟨rfl,all⟩ | ⟨k,w,r,rfl,h1,h2,h3⟩
   ·refine .inl ⟨rfl,λu m=> ?_⟩;rw [wQ,hi]at m;rcases wB.mp m with m | m
    ·exact all u m
    ·rw [show u= .ref a2 by simpa using m];exact⟨a2,ci,Z,ba,cV,bT,rfl,J.me⟩
   ·exact .inr ⟨k,w,r,rfl,h1,h2,h3⟩
 ·rintro zs H' ⟨s',hz,o⟩ np ai;refine zg (upd _ np _) rfl ai λU n3 x3=> ?_
  have s3:=s'.trans n3;have l:=R.tr.same s3;have nJ:=s3 _ _ me;have X:Step th C H1 U al:=Step.same s3;refine !(zaO PK nJ (!?_));cases b with
  | true=>
   refine ifT rfl ?_;obtain⟨p,i,c2,rfl⟩:∃p i c2,G=(p,i) :: c2:=by
    cases G with
    | nil=>exact absurd ⟨QL.mp R.tr.up.len,rfl⟩ hx
    | cons x c2=>exact⟨x.1,x.2,c2,rfl⟩
   obtain⟨pa,pv,eA,rfl,fG,⟨rQ,⟨a2,Z,ba,cV,ci,bT,b2,cI,rfl,J⟩,lW,bc⟩,AM⟩:=l.up;have gH:=l.ab;rw [QQ]at gH;have lp:=lW.len;refine !⟨t,dx,!⟨l.me,rfl,th,j9 p i s,t,dx,al,pa,a2,ci,Z,ba,cV,eA.reverse,rQ,cI,bT,.ref a,b2,i,rfl,l.me,gH,yu _ _ fG,yu _ _ J.me,(by rw [lp];exact R.ok.1),z4M J.wit,z4M J.hds,yu _ _ J.wit,yu _ _ J.ahd,zc3 (J.ahx.mono λb xs z=>yu _ _ z),(by rw [R.ok.2.1];exact yu _ _ J.hds),(by rw [z1O R.ok.1];exact lW.set l.pl),?_⟩⟩;rintro x H4 k4 fx t4 nG ⟨bQ,aj,aQ,mZ⟩;have fH:Step th C U H4 al:=zd2 l.me k4 gH;have uS:jQ th C (hid H4 al) (kids (j9 p i s)) (rQ.set i (.ref a)):=by
    rw [z1O R.ok.1];exact(lW.set l.pl).ev fH.ev
   refine⟨(2 + rest (j9 p i s) (i + 1)) + budget c2,?_,c2,j9 p i s,eA,rQ.set i (.ref a),cI,x,Z,ba,bQ,aj,aQ,false,i + 1,_,_,!⟨⟨⟨t4,nG,AM.ev fH.ev,zV.mpr ⟨_,⟨x,Z,ba,bQ,aj,aQ,false,cI,rfl,mZ⟩,uS⟩⟩,R.ok.2.2,R.same,R.step.trans (X.trans fH),mZ,uS,λu m=> ?_⟩,by simp⟩⟩
   ·rw [zaE R.ok.1]
    show _ < 1 + (2 + rest p (i + 1) + budget c2)
    lia
   ·rcases take_set m with rfl | m
    ·exact z3K.ev (th:=th) (X.trans fH).ev ⟨a,bC,ah,hd,wl,qv,rfl,R.nd.me⟩
    ·exact(bc u m).ev fH.ev
  | false=>
   refine ifF rfl ?_;refine !⟨_,.inl ⟨_,SqL.of x3,rfl⟩,?_⟩;rcases o with⟨rfl,all⟩ | ⟨k,w,r,rfl,hk,un,st⟩
   ·refine ifF (by rfl) ?_;rw [qc]at all;have hn:=z9r R.kd all;have uT:wfQ th (y0 G s):=by rw [R.same];exact AK
    have gH:=l.ab;refine !⟨al,_,gH,th,s,_,rfl,z41 R.ok uT,l.pl,λq' e z N s5 aa h5=> ?_,λe N s5 h5=> ?_⟩
    ·have m5:N t=some (.ins D dx (trF (.ref a) al)):=s5 t _ (by rw [ju l.ne];exact l.me);refine !⟨rfl,!?_⟩;refine ifT (by rfl) ?_;refine !(!⟨t,D,dx,!⟨(by rw [zl l.ne];exact m5),TK.cls,TK.pl,by show 2 < 1000;decide,?_⟩⟩);rw [zbL];have I:hid (upd (upd N al (.lst O.reverse)) t (.ins D dx (trF (.ref z) al))) al=upd N t (.ins D dx (trF (.ref z) al)):=by rw [z24 l.ne,z44 h5]
     have v5:Ev th C (hid U al) N:=Ev.of (Nt.of s5);have L:Ev th C N (upd N t (.ins D dx (trF (.ref z) al))):=z6r m5 z4E;obtain⟨E1,E2,E3⟩:=z75 TT R.ok uT hn e;have tw:=zd1 e;rw [<-R.same]at fin;refine fin true _ G q' (.ref z) O (R.step.trans (X.trans ⟨by rw [I];exact v5.trans L,λb ps e=> ?_⟩)) ⟨zj,by rw [zl l.ne.symm,zj],by rw [I];exact(l.up.ev v5).ev L,by rw [I];exact aa.ev L⟩ E3 (.inl ⟨rfl,E1,E2,z90 R.ok tw.1 tw.2⟩);have n1:b≠t:=λz=>by rw [z,l.me]at e;cases e
     have n2:b≠al:=λz=>by rw [z,gH]at e;cases e
     rw [zl n1,zl n2];exact s5 _ _ (by rw [ju n2];exact e)
    ·refine !⟨rfl,!?_⟩;refine ifF (by rfl) ?_;have rR:=R.nd.ev (X.ev.trans (Ev.of (Nt.of s5))) (s5 _ _ (z1c s3 _ _ R.nd.me)) (.inl rfl);have fk:a≠al:=z4M R.nd.me;refine !⟨a,C,bC,!⟨(by rw [zl fk];exact rR.me),PK.cls,PK.se,by show 5 < 1000;decide,?_⟩⟩;rw [zfE];have I:hid (upd (upd N al (.lst O.reverse)) a (.ins C bC (jD ah hd wl qv true))) al=upd N a (.ins C bC (jD ah hd wl qv true)):=by rw [z24 fk,z44 h5]
     have nq:=zf8 e hn;have v5:Ev th C (hid U al) N:=Ev.of (Nt.of s5);have L:Ev th C N (upd N a (.ins C bC (jD ah hd wl qv true))):=z9A rR nq;have gG:t≠a:=λz=>by
      have:=l.me;rw [z,nJ]at this
      injection this with this
      injection this with _ _ this
      exact z4E _ _ _ _ _ this.symm
     have m5:N t=some (.ins D dx (trF (.ref a) al)):=s5 t _ (by rw [ju l.ne];exact l.me);refine⟨1 + budget G,?_,G,s,O,ws,xs,a,ah,hd,wl,bC,qv,true,j,_,_,!⟨⟨⟨by rw [zl gG,zl l.ne];exact m5,by rw [zl fk.symm,zj],by rw [I];exact(l.up.ev v5).ev L,by rw [I];exact(l.pl.ev v5).ev L⟩,R.ok,R.same,R.step.trans (X.trans ⟨by rw [I];exact v5.trans L,λb ps e=> ?_⟩),by rw [I];exact rR.ev L zj (.inr nq),by rw [I];exact R.kd.ev (X.ev.trans (v5.trans L)),λu m=>by rw [I];exact(R.st u m).ev (X.ev.trans (v5.trans L))⟩,by simp⟩⟩
     ·show 1 + budget G < 2 + rest s j + budget G
      lia
     ·have n1:b≠a:=λz=>by rw [z,nJ]at e;cases e
      have n2:b≠al:=λz=>by rw [z,gH]at e;cases e
      rw [zl n1,zl n2];exact s5 _ _ (by rw [ju n2];exact e)
   ·refine ifT (by rfl) ?_;obtain⟨pW,_⟩:=we.mp hk;have cs:k < (kids s).length:=by rw [<-rE];exact pW
    obtain⟨w',uU,pw⟩:=R.kd.at (wa cs);rw [hk]at uU;cases uU;obtain⟨AN,⟨a2,Z,ba,cV,ci,bT,b2,cI,rfl,J⟩,lW⟩:=zV.mp pw;have eb:b2=false:=by
     cases b2 with
     | false=>rfl
     | true=>exact absurd ⟨a2,ci,Z,ba,cV,bT,rfl,J.me⟩ un.not
    subst eb;have AO:j<=k:=by
     rcases Nat.lt_or_ge k j with z | z
     ·exact absurd (R.st _ (qL (i:=k) (by rw [List.getElem?_take_of_lt z];exact hk))) un.not
     ·exact z
    have lc:O.length < sizeLine:=by
     have h1:=z5o R.ok;have h2:=z6x (y0 G s);have h3:=R.tr.up.len;have h4:wt (y0 G s)<=8000000:=by rw [R.same];exact AL
     exact z2N (by lia)
    refine !⟨t,dx,!⟨l.me,rfl,!(zu x3 zH ⟨t,dx,al,a,bC,ah,hd,wl,O.reverse,ws,qv,.ref a2,false,k,rfl,l.me,l.ab,(by rw [w0k];exact lc),nJ,s3 _ _ wit,z4M R.nd.wit,hk,λp hp=> ?_⟩)⟩⟩;have np1:p≠al:=λz=>by rw [z,l.ab]at hp;cases hp
    have np2:p≠t:=λz=>by rw [z,l.me]at hp;cases hp
    have hh:hid U al p=none:=z1T hp;have I:hid (upd (upd (upd U p (.tup [.ref a,.int (k:Int)])) al (.lst (O.reverse ++ [.ref p]))) t (.ins D dx (trF (.ref a2) al))) al=upd (upd (hid U al) p (.tup [.ref a,.int (k:Int)])) t (.ins D dx (trF (.ref a2) al)):=by rw [z24 l.ne,z7v,z24 np1]
    have v5:Ev th C (hid U al) (upd (hid U al) p (.tup [.ref a,.int (k:Int)])):=Ev.of (Nt.of (zB hh _));have mt:upd (hid U al) p (.tup [.ref a,.int (k:Int)]) t=some (.ins D dx (trF (.ref a) al)):=by rw [zl np2.symm,ju l.ne];exact l.me
    have L:=v5.trans (z6r (th:=th) (C:=C) (gs:=trF (.ref a2) al) mt z4E);have v7:=X.ev.trans L;have keep:∀{a' aj cX bi bQ:Addr} {aQ:V} {b':Bool},hid H1 al a'=some (.ins C aj (jD cX bi bQ aQ b'))->upd (upd (hid U al) p (.tup [.ref a,.int (k:Int)])) t (.ins D dx (trF (.ref a2) al)) a'=some (.ins C aj (jD cX bi bQ aQ b')):=λ{a' aj cX bi bQ aQ b'} e=>by
     have Y:=z1c (d:=al) s3 _ _ e;rw [zl λz=>by rw [z,ju l.ne,l.me]at Y;injection Y with Y;injection Y with _ _ Y;exact z4E _ _ _ _ _ Y,zl λz=>by rw [z,hh]at Y;cases Y];exact Y
    have kq:(kids s)[k]? =some (kids s)[k]:=wa cs;refine⟨(2 + rest (kids s)[k] 0) + budget ((s,k) :: G),?_,(s,k) :: G,(kids s)[k],.ref p :: O,AN,cI,a2,Z,ba,cV,ci,bT,false,0,_,_,!⟨⟨⟨zj,by rw [zl l.ne.symm,zj,QQ],?_,by rw [I];exact pw.ev v7⟩,zbT kq R.ok,(zaf kq).trans R.same,R.step.trans (X.trans ⟨by rw [I];exact L,λb ps e=> ?_⟩),?_,by rw [I];exact lW.ev v7,λu m=>by rw [w0A]at m;cases m⟩,by simp⟩⟩
    ·have r1:=z8X kq;have r2:=zdk (p:=s) AO;have r3:=zbf (kids s)[k]
     show 2 + rest (kids s)[k] 0 + (2 + rest s (k + 1) + budget G) < 2 + rest s j + budget G
     lia
    ·rw [I];refine⟨p,.ref a,O,rfl,?_,⟨ws,⟨a,ah,hd,wl,bC,qv,false,xs,rfl,?_⟩,R.kd.ev v7,λu m=>(st u m).ev v7⟩,l.up.ev L⟩
     ·rw [zl np2,zj]
     ·exact R.nd.ev v7 (keep R.nd.me) (.inl rfl)
    ·have n1:b≠t:=λz=>by rw [z,l.me]at e;cases e
     have n2:b≠al:=λz=>by rw [z,l.ab]at e;cases e
     have n3:b≠p:=λz=>by rw [z,hp]at e;cases e
     rw [zl n1,zl n2,zl n3];exact e
    ·rw [I];exact J.ev v7 (keep J.me) (.inl rfl)
inductive spTWhole (C D:Addr) (vs:List V) (H:Hp) (Q:VK) (E:XK):Prop
 | mk:∀th t al dx c q v us,vs= [.ref t]->TrAt th C D H t al c q v dx us->kE th c q->(∀(v':V) (H':Hp),zw H H'->QAt H' (y0 c q) v'->Q v' H')->spTWhole C D vs H Q E
theorem zbg{th:Str->List Str}:∀{c:List (Qn×Nat)} {q p:Qn} {j i:Nat},kE th c q->c[j]? =some (p,i)->i < (kids p).length
 | [],_,_,_,_,_,e=>by cases e
 | (p,i) :: c,_,_,0,_,h,e=>by cases e;exact h.1
 | (p,i) :: c,_,_,j + 1,_,h,e=>zbg (j:=j) h.2.2 (by simpa using e)
theorem yr.set:∀{qs:List Qn} {vs:List V} {i:Nat} {q:Qn} {v:V},yr H qs vs->QAt H q v->yr H (qs.set i q) (vs.set i v)
 | [],_,_,_,_,h,_=>by rw [show _= []from h];rfl
 | r :: qs,_,0,_,v,⟨u,us,a,h1,h2⟩,h=>by subst a;exact⟨v,us,rfl,h,h2⟩
 | r :: qs,_,i + 1,_,v,⟨u,us,a,h1,h2⟩,h=>by subst a;exact⟨u,us.set i v,rfl,h1,h2.set h⟩
theorem jR:FnScope ["self","question","over","spot","parts"] ["self"] (zi kf):=by walk_at "s"
theorem z3L(F:Fun K "whole" "Turner.whole" kf f fd)(T:Txt K mg)(l:PC K C)(O:TC K D):FnOk P w K mg base CX0 1 f fd ["self"] (spTWhole C D):=by
 refine F.okB jR (λvs H Q E h=> ?_) (λvs H Q E h=> ?_)
 ·obtain⟨th,t,al,dx,c,q,v,us,rfl,_⟩:=h
  rfl
 obtain⟨th,t,al,dx,c,q,v,us,rfl,d,lK,fin⟩:=h;obtain⟨uL,⟨a0,uM,uN,uO,uP,rP,b0,uQ,rfl,S⟩,uR⟩:=zV.mp d.pl;have AQ:=yu _ _ S.me;have lu:=d.up.len;intro ac A outer sh hr;refine⟨_,(zc (seT 1 jR (zz (zz v0 rfl) rfl))
  (zc (foR (zdM rfl T.reversed (zN (zz v0 rfl) ze)) (zbc rfl (z2S (gnM 2 jR) (z2S (gnM 3 jR) z8Z)))
   (zc (jY (j:=4) rfl jR.nd rfl (w02 rfl) (CompSc.of (sx:=zi kf) (NX:= ["self","question","over","spot","parts"]) (fr:= []) (ix:= []) rfl rfl (by decide +kernel)) (zR (zz v2 rfl)) (λ_ _ _ _ _ _=>jg) (λ_ _ _ _ _ _=>(z42 (K:=K) rfl v0 rfl)))
   (zc (z88 v1 (z8e v4 v3 set_list))
   (zf (seT 1 jR (zp z8S (zz v2 rfl) (jk z0T rfl T.tuple Qv (zb v4 ze))))))))
  (zf (zr v1)))),?_⟩
 generalize hK0:K=K1;generalize hK1:C=C1;generalize hK2:D=D1
 revert D1
 revert C1
 revert K1
 refine z5R (by walk_at "cl") ?_;refine !(z5f O d.me (zdE l AQ ?_));refine !(z9z O d.me ⟨al,!⟨SqL.of d.ab,?_⟩⟩);refine zdg (xs:=us.reverse) (λi σ H'=>∃u n B s,σ= [some (.ref t),some u,n,B,s]/\zw H H'/\QAt H' (y0 (c.take i) q) u) ⟨rP,none,none,none,rfl,zw.refl _,S.qst.same yu⟩ ?_ ?_ ?_
 ·rintro i σ H' _ ⟨u,n,B,s,rfl,s',_⟩;exact SqL.of (s' _ _ d.ab)
 ·rintro i x σ H' hi ⟨u,n,B,s,rfl,s',r⟩;rw [List.reverse_reverse]at hi;obtain⟨p,k,pa,pv,hc,rfl,fG,AR⟩:=d.up.at hi;have hk:=zbg lK hc;obtain⟨ws,⟨a,ah,hd,wl,bC,qv,b,xs,rfl,nd⟩,kd⟩:=zV.mp AR;have lo:zw (hid H al) H':=yu.trans s';have me:=lo _ _ nd.me;have wit:=lo _ _ nd.wit;have Z:=kd.len;have lk:=z23 p;have AS:=kd.ev (Ev.of (Nt.of lo));refine⟨pa,!⟨SqT.of (lo _ _ fG),rfl,_,[_],rfl,_,[],rfl,rfl,?_⟩⟩;refine !(yY l me ⟨wl,rfl,⟨_,SqL.of wit⟩,?_⟩);refine ja (xs:=ws) (λi ys H2=>H2=H'/\ys.length=i/\yr H' ((kids p).take i) ys) ⟨rfl,rfl,by rw [w0A];rfl⟩ ?_ ?_ ?_
  ·rintro i ys H2 hi ⟨rfl,I,_⟩;exact⟨SqL.of wit,zE (by lia)⟩
  ·rintro i y ys H2 hi ⟨rfl,I,hq⟩;have R:i < (kids p).length:=by rw [<-Z];exact(we.mp hi).1
   obtain⟨v,hv,pv⟩:=AS.at (wa R);rw [hi]at hv;cases hv;obtain⟨us,⟨a2,cu,ba,cV,ci,bT,b2,cI,rfl,N⟩,_⟩:=zV.mp pv;refine !(zdE l N.me ⟨rfl,by rw [wg,I];rfl,?_⟩);rw [wQ,wa R];exact hq.app ⟨_,[],rfl,N.qst,rfl⟩
  ·rintro ys H2 ⟨rfl,I,hq⟩ np Y;rw [Z,qc]at hq;refine zg (upd _ np _) rfl Y λM n3 x3=> ?_
   refine !(!(!⟨np,_,_,k,rfl,rfl,x3,z97 (by lia),?_⟩));have G:zw H2 (upd M np (.lst (ys.set k u))):=λb o e=>by rw [zl λz=>by rw [z,Y]at e;cases e];exact n3 _ _ e
   have X:upd M np (.lst (ys.set k u)) np=some (.lst (ys.set k u)):=zj;generalize upd M np (.lst (ys.set k u))=H4 at G X ⊢;have AT:=(hq.set (i:=k) r).same G;refine !(yH l (G _ _ me) (!⟨np,!(.inl ⟨SqL.of X,λtp aD=> ?_⟩)⟩));refine zg (upd _ tp _) rfl aD λH5 U x5=> ?_
   have L:=G.trans U;have EF:ys.length=(kids p).length:=by lia
   have cg:kN H5 (j9 p k (y0 (c.take i) q)) xs:=zc3 (nd.ahx.mono λb xs z=>L _ _ (lo _ _ z));refine⟨ah,tp,xs,!⟨rfl,SqT.of (L _ _ (lo _ _ nd.ahd)),SqT.of x5,(z4z nd.ahx).1,?_,λe=> ?_,λne p' a9=> ?_⟩⟩
   ·have:=(z4z nd.ahx).2;rw [List.length_set];exact jb (by lia)
   ·have:=Q6 List.length e;rw [List.length_set]at this;have:ys.length=0:=this
    lia
   ·refine zg (upd _ p' _) rfl a9 λH6 J x6=> ?_
    have s6:=L.trans J;refine⟨.ref p',_,_,!⟨s'.trans s6,?_⟩⟩;have et:c.take (i + 1)=c.take i ++ [(p,k)]:=by rw [wQ,hc];rfl
    rw [et,z5D];refine ze4 (cg.mono λb xs z=>J _ _ z) ?_ x6;rw [z1O hk];exact AT.same (U.trans J)
 ·rintro σ H' ⟨u,n,B,s,rfl,s',r⟩;rw [w0k,lu,qc]at r;exact !(fin u H' s' r)
inductive spLast (C T1 T2 T3 T4:Addr) (vs:List V) (H:Hp) (Q:VK) (E:XK):Prop
 | mk:∀th tr q v tp,vs= [.ref tp,v]->TabOk th tr->jq th tr H tp->QAt H q v->wfQ th q->wt q<=8000000->jJ H T4 z8Q z9s->Ls T1 T2 T3 H->T4≠T1->T4≠T2->T4≠T3->(∀(q':Qn) (v':V) (H':Hp),Eqv th tr q q'->nf th q'->wt q'<=wt q->QAt H' q' v'->Ev th C H H'->Ls T1 T2 T3 H'->Q v' H')->spLast C T1 T2 T3 T4 vs H Q E
theorem z1x:FnScope ["tables","question","turner"] ["tables","question"] (zi z0F):=by walk_at "s"
theorem z3U(F:Fun K "last_turning" "last_turning" z0F f fd)(T:Txt K mg)(j:KnC P w K mg base 10 "Turner" ["self","tables","question"] (spTInit C D T1 T2 T3 T4) D)(i:KnM P w K mg base 10 "turn" ["self"] (spTurn C D) D)(d:KnM P w K mg base 1 "whole" ["self"] (spTWhole C D) D):FnOk P w K mg base CX0 12 f fd ["tables","question"] (spLast C T1 T2 T3 T4):=by
 refine F.okB z1x (λvs H Q E h=> ?_) (λvs H Q E h=> ?_)
 ·obtain⟨th,tr,q,v,tp,rfl,_⟩:=h
  rfl
 obtain⟨th,tr,q,v,tp,rfl,TT,h4,hq,wf,L,hT,S,d1,d2,U,fin⟩:=h;intro ac A outer sh hr;refine⟨_,(zc (seT 2 z1x (yp j hr.m rfl (zb v0 (zb v1 ze))))
  (zc (z7h (ji (z3k i hr.m v2))
   (zf zdp))
  (zf (zr (z3k d hr.m v2))))),?_⟩
 refine !(!(λx dx B Y aq=> ?_));have s1:zw H (upd (upd H dx (.own x)) x (.ins D dx [])):=λb o e=>by
  have b1:b≠x:=λz=>by rw [z,B]at e;cases e
  have b2:b≠dx:=λz=>by rw [z,Y]at e;cases e
  rw [zl b1,zl b2];exact e
 refine⟨th,tr,q,v,x,dx,tp,rfl,zj,TT,h4.same s1,hq.same s1,wf,wP (z6x q) L,hT.same s1,S.same s1,d1,d2,U,λv1 al H1 M Z t1=>⟨rfl,?_⟩⟩;have X:Ev th C H (hid H1 al):=⟨λb o e n _=>M b o (λz=>by rw [z,B]at e;cases e) (s1 _ _ e) n,λa aj ah hd wl qv b e=>⟨b,M a _ (λz=>by rw [z,B]at e;cases e) (s1 _ _ e) (λ_ z=>by cases z),.inl rfl⟩⟩;refine z4D ?_;dsimp only;refine z64 ?_;refine z0P (λm σ H2=>∃c l v2 us,σ= [some (.ref tp),some v,some (.ref x)]/\TrAt th C D H2 x al c l v2 dx us/\kE th c l/\Eqv th tr q (y0 c l)/\wt (y0 c l)<=wt q/\Ev th C H (hid H2 al)/\Ls T1 T2 T3 H2/\m=mu th (y0 c l))
  _ ⟨[],q,v1,[],rfl,t1,trivial,Eqv.refl wf,ww _,X,Z,rfl⟩ ?_
 rintro m σ H2 ⟨c,l,v2,us,rfl,t,lE,s,w2,R,y,rfl⟩;refine !⟨x,dx,!⟨t.me,rfl,th,tr,x,al,dx,c,l,v2,us,rfl,TT,t,lE,s.wf,wP w2 L,λr H3 c' q' v' nH st u p o=>!?_⟩⟩;have J:=st.ls y t.ab;have G:=R.trans st.ev;rcases o with⟨rfl,E3,m3,w3⟩ | ⟨rfl,ep,uV⟩
 ·refine ifT rfl ?_;refine⟨_,λσ' H' z=>z,?_⟩;exact⟨_,m3,c',q',v',nH,rfl,u,p,s.trans E3,wP w3 w2,G,J,rfl⟩
 ·refine ifF rfl ?_;refine !⟨x,dx,!⟨u.me,rfl,th,x,al,dx,c',q',v',nH,rfl,u,p,λv4 I O N=> ?_⟩⟩;have e4:Ev th C H I:=G.trans (Ev.of (Nt.of (yu.trans O)));rw [ep]at N uV;exact fin _ v4 I s uV w2 N e4 (J.same O)
theorem TabAt.ev{v:V}(h:TabAt th tr H v n)(k:Ev th C H H'):TabAt th tr H' v n:=by
 obtain⟨p,hp,rp,rs,rfl,h1,c,a,b⟩:=h;exact⟨p,hp,rp,rs,rfl,k.tup h1,k.lst c,⟨k.lst a.1,λr m=>⟨(a.2 r m).1,k.lst (a.2 r m).2⟩⟩,b⟩
theorem jq.ev(h:jq th tr H p)(k:Ev th C H H'):jq th tr H' p:=by
 obtain⟨v0,v1,v2,v3,h0,a,b,c,d⟩:=h;exact⟨v0,v1,v2,v3,k.lst h0,a.ev k,b.ev k,c.ev k,d.ev k⟩
theorem z1o.eqv{v:V}(e:Eqv th tr q q')(h:z1o th tr q' v H):z1o th tr q v H:=by
 unfold z1o at h ⊢;rw [e.h,e.r]at h;exact h
inductive spClever (C T1 T2 T3 T4:Addr) (vs:List V) (H:Hp) (Q:VK) (E:XK):Prop
 | mk:∀th tr q v tp,vs= [.ref tp,v]->TabOk th tr->jq th tr H tp->QAt H q v->wfQ th q->kh th tr q->wt q<=8000000->jJ H T4 z8Q z9s->Ls T1 T2 T3 H->T4≠T1->T4≠T2->T4≠T3->(∀(v':V) (H':Hp),Ev th C H H'->Ls T1 T2 T3 H'->z1o th tr q v' H'->Q v' H')->spClever C T1 T2 T3 T4 vs H Q E
theorem z32:FnScope ["tables","question"] ["tables","question"] (zi z0g):=by walk_at "s"
theorem z35(F:Fun K "clever_answer" "clever_answer" z0g f fd)(T:Txt K mg)(a:Kn P w K mg base 11 "plain_answer" ["tables","question"] (spPlain K T1 T2 T3))(b:Kn P w K mg base 12 "last_turning" ["tables","question"] (spLast C T1 T2 T3 T4)):FnOk P w K mg base CX0 13 f fd ["tables","question"] (spClever C T1 T2 T3 T4):=by
 refine F.okB z32 (λvs H Q E h=> ?_) (λvs H Q E h=> ?_)
 ·obtain⟨th,tr,q,v,tp,rfl,_⟩:=h
  rfl
 obtain⟨th,tr,q,v,tp,rfl,TT,d,hq,wf,j,i,p,l,d1,d2,r,fin⟩:=h;intro ac A outer x hr;refine⟨_,(zf (zr (zQ a hr.m (zb v0 (zO (zQ b hr.m (zb v0 (zb v1 ze))) ze))))),?_⟩;refine !(!(!⟨th,tr,q,v,tp,rfl,TT,d,hq,wf,i,p,l,d1,d2,r,λq' v' H' c _ s u e t=> ?_⟩));exact⟨th,tr,q',v',tp,rfl,TT,d.ev e,u,c.wf,c.sub j,wP (z6x q') (wP s i),t,λv2 H2 n L2 o=>fin v2 H2 (e.trans (Ev.of n)) L2 (o.eqv c)⟩
theorem zdJ(T:TabOk th tr):∀n∈tabs,∀s∈th n,s∈z0a 26 3:=by
 have hl:∀s∈jc,s∈z0a 26 3:=by decide +kernel
 have ht:∀s∈th "t",s∈z0a 26 3:=by
  obtain⟨m,_,_,e⟩:=T.t;rw [e];exact λs hs=>hl s (Qy hs)
 intro n hn;have a:n="t"\/n="tuvtuvtuvw"\/n="tuvtuvtuvx"\/n="tuvz":=by
  unfold tabs at hn
  simpa using hn
 rcases a with rfl | rfl | rfl | rfl
 ·exact ht
 ·rw [T.w];decide +kernel
 ·rw [T.x];decide +kernel
 ·rw [T.z];exact ht
theorem z9o:∀g∈signs,(("n":Str) ++ g)∈z0a 26 3/\(("s":Str) ++ g)∈z0a 26 3:=by decide +kernel
theorem yS(T:TabOk th tr):∀{q:Qn},okQ th q->∀s∈zd th q,s∈z0a 26 3
 | .table n,h=>zdJ T n h
 | .pick _ q,h=>yS T (q:=q) h.2.2
 | .cols ns q,h=>λs hs=>yS T (q:=q) h.2.2.2 s (h.2.2.1 s hs)
 | .pair q r,h=>λs hs=>by
  rcases wB.mp hs with hs | hs
  ·exact yS T (q:=q) h.2.1 s hs
  ·exact yS T (q:=r) h.2.2 s hs
 | .join a b q r,h=>λs hs=>by
  rcases wB.mp hs with hs | hs
  ·exact yS T (q:=q) h.2.2.2.1 s hs
  ·exact yS T (q:=r) h.2.2.2.2 s hs
 | .both q r,h=>yS T (q:=q) h.2.1
 | .first _ q,h=>yS T (q:=q) h.2
 | .group a b n s q,h=>λx e=>by
  obtain⟨ha,_,⟨g,c,rfl,rfl⟩,_,_,hq⟩:=h;have d:x∈ [a,("n":Str) ++ g,("s":Str) ++ g]:=e;simp only [wG,qi,QG]at d;rcases d with rfl | rfl | rfl
  ·exact yS T (q:=q) hq _ ha
  ·exact(z9o g c).1
  ·exact(z9o g c).2
 | .sort _ q,h=>yS T (q:=q) h.2
theorem zbx:∀i∈z0j,0<=i:=by decide +kernel
theorem zcD:∀g∈signs,(("n":Str) ++ g)≠(("s":Str) ++ g):=by decide +kernel
def z7d(T:TabOk th tr){r:Qn}(hq:okQ th q)(hr:okQ th r)(nd:∀n∈zd th q,n∉zd th r):(zd th q ++ zd th r).length<=100:=
 wP (yZ (QP.mpr ⟨(jB T hq).2,(jB T hr).2,λa ha b c e=>nd a ha (e ▸ c)⟩) λx d=>(wB.mp d).elim (yS T hq x) (yS T hr x)) z4G
theorem z1y(T:TabOk th tr):∀{q:Qn},okQ th q->wfQ th q
 | .table n,h=>h
 | .pick c q,h=>⟨h.1.ok,wP h.2.1 (by decide),z1y T h.2.2⟩
 | .cols ns q,h=>⟨h.2.1,h.2.2.1,z1y T h.2.2.2⟩
 | .pair q r,h=>⟨h.1,z7d T h.2.1 h.2.2 h.1,z1y T h.2.1,z1y T h.2.2⟩
 | .join a b q r,h=>⟨h.1,h.2.1,h.2.2.1,z7d T h.2.2.2.1 h.2.2.2.2 h.2.2.1,z1y T h.2.2.2.1,z1y T h.2.2.2.2⟩
 | .both q r,h=>⟨h.1,z1y T h.2.1,z1y T h.2.2⟩
 | .first n q,h=>⟨zbx n h.1,z1y T h.2⟩
 | .group a b n s q,h=>by
  obtain⟨ha,d,⟨g,e,rfl,rfl⟩,h1,h2,hq⟩:=h;refine⟨ha,d,?_,z1y T hq⟩;have:=zcD g e;simp [h1,h2,this]
 | .sort a q,h=>⟨h.1,z1y T h.2⟩
theorem zcT:∀n∈tabs,1<=n.length:=by decide +kernel
theorem z9Y(h:okQ th q):3 * (post q).length<=(zx q).length + 2:=by
 induction q
 case table n=>
  have:=zcT n h;simp only [zx,post,wS]
  lia
 case' pick i=>have:=i h.2.2
 case' cols i=>have:=i h.2.2.2
 case' pair i j=>have:=i h.2.1;have:=j h.2.2
 case' join i j=>have:=i h.2.2.2.1;have:=j h.2.2.2.2
 case' both i j=>have:=i h.2.1;have:=j h.2.2
 case' first i=>have:=i h.2
 case' group i=>have:=i h.2.2.2.2.2
 case' sort i=>have:=i h.2
 all_goals
  simp only [zx,post,wg,wS]
  (walk_at "sl")
inductive spLaw (K:W.Frag) (T1 T2 T3 T4:Addr) (vs:List V) (H:Hp) (Q:VK) (E:XK):Prop
 | mk:∀a (ns:List Int),vs= [.ref a]->SqL K H a (ns.map V.int)->ns.length<=63->jJ H T1 zc5 zcg->jJ H T2 zbb zbF->jJ H T3 z4f zaM->jJ H T4 z8Q z9s->(∀H',Q (.bl true) H')->spLaw K T1 T2 T3 T4 vs H Q E
theorem z3m:FnScope ["_law_script","_law_tables","_law_state","_law_handed","_law_found","_law_told"] ["_law_script"] (zi z5d):=by walk_at "s"
theorem zdW(F:Fun K "law" "law" z5d f fd)(T:Txt K mg)(d12:T1≠T2)(d13:T1≠T3)(d23:T2≠T3)(rS:T4≠T1)(rT:T4≠T2)(rV:T4≠T3)(s:Kn P w K mg base 1 "_law_wide" ["_law_script","_law_few","_law_bound"] (spWide K))(j:Kn P w K mg base 1 "_law_stocked" ["_law_cells","_law_more"] (spStocked K))(n:Kn P w K mg base 10 "_law_grown" ["_law_cells","_law_tables"] (spGrown K))
  (d:Kn P w K mg base 1 "_law_again" ["_law_tables"] (spAgain K)) (e:Kn P w K mg base 13 "clever_answer" ["tables","question"] (spClever C T1 T2 T3 T4)) (i:Kn P w K mg base 11 "plain_answer" ["tables","question"] (spPlain K T1 T2 T3)) (o:Kn P w K mg base 4 "_law_kept" ["_law_handed","_law_tables"] (spKept K)) (c:Kn P w K mg base 4 "_law_answers" ["_law_found","_law_heads","_law_rows"] (spAnswers K)):FnOk P w K mg base CX0 14 f fd ["_law_script"] (spLaw K T1 T2 T3 T4):=by
 refine F.okB z3m (λvs H Q E h=> ?_) (λvs H Q E h=> ?_)
 ·obtain⟨a,ns,rfl,_⟩:=h
  rfl
 obtain⟨a,ns,rfl,N,hn,L1,R,L3,L4,q⟩:=h;have hL:Ls T1 T2 T3 H:=⟨L1,R,L3,d12,d13,d23⟩;intro ac A outer sh hr;refine⟨_,(zc (seT 1 z3m (zQ j hr.m (zm (jr yF v0 (jH za) (jH za)) (zO (zQ s hr.m (zb v0 (zt za (zt za ze)))) ze))))
  (zc (seT 2 z3m (zQ n hr.m (zm (jr yF v0 jX (jH za)) (zb v1 ze))))
  (zc (seT 3 z3m (zQ d hr.m (zb v1 ze)))
  (zc (seT 4 z3m (zQ e hr.m (zb v3 (zm (ixT v2 za) ze))))
  (zc (seT 5 z3m (zQ i hr.m (zO (zQ d hr.m (zb v1 ze)) (zm (ixT v2 za) ze))))
  (zc (zD (PW.pt (z9g (ym (ji (zQ o hr.m (zb v3 (zb v1 ze))))) (z9g (ym (ji (zP zX rfl T.isinstance q9 (zb v5 (zb (yb (v:= .ty "tuple") rfl T.tuple Qv rfl) ze))))) (z8q (cmT z1I (leN T.len (zb v5 ze)) za)))))
   (zf (zr yd))
   zv)
  (zc (zD (PW.pt (z9g (ym (ji (zP zX rfl T.isinstance q9 (zm (ixT v5 za) (zb (yb (v:= .ty "list") rfl T.list qJ rfl) ze))))) (z8q (ym (ji (zP zX rfl T.isinstance q9 (zm (ixT v5 za) (zb (yb (v:= .ty "list") rfl T.list qJ rfl) ze))))))))
   (zf (zr yd))
   zv)
  (zc (zD (ym (ji (zQ c hr.m (zb v5 (zm (ixT v2 za) (zm (ixT v2 za) ze))))))
   (zf (zr yd))
   zv)
  (zf (zr (zQ c hr.m (zb v4 (zm (ixT v5 za) (zm (ixT v5 za) ze)))))))))))))),?_⟩
 have M:∀k:Nat,HT.sIx ns.length ns.length (some (k:Int))=min k ns.length/\HT.sIx ns.length 0 (some (k:Int))=min k ns.length:=λk=>by
  have hk:¬((k:Int) < 0):=by lia
  refine⟨?_,?_⟩ <;>
  ·show(if(k:Int) < 0 then((k:Int) + (ns.length:Int)).toNat else min (k:Int).toNat ns.length)=_
   rw [wM hk]
   rfl
 refine !(!(!⟨a,!⟨N,λl2 bD=> ?_⟩⟩));rw [z22];refine zg (upd _ l2 _) rfl bD λH2 U x2=> ?_
 refine !⟨a,ns,8,180,rfl,U.seq N,hn,by decide,by decide,λm H3 n3 m0 m1=> ?_⟩;have c1:((ns.drop (HT.sIx ns.length 0 none)).take (HT.sIx ns.length ns.length (some 12) - HT.sIx ns.length 0 none)).length<=12:=by
  rw [wK,show HT.sIx ns.length ns.length (some 12)=_ from(M 12).1]
  lia
 have c2:((ns.drop (HT.sIx ns.length 0 (some 12))).take (HT.sIx ns.length ns.length (some 24) - HT.sIx ns.length 0 (some 12))).length<=18:=by
  rw [wK,show HT.sIx ns.length ns.length (some 24)=_ from(M 24).1,show HT.sIx ns.length 0 (some 12)=_ from(M 12).2]
  lia
 refine⟨l2,_,m,rfl,SqL.of (n3 _ _ x2),c2,m0,by lia,λp th tr H4 n4 l L=> ?_⟩;have uW:=U.trans (n3.trans n4);refine !(!⟨a,!⟨uW.seq N,λl1 hU=> ?_⟩⟩);rw [z22];refine zg (upd _ l1 _) rfl hU λH5 n5 x5=> ?_
 refine !⟨l1,p,_,th,tr,rfl,SqL.of x5,by lia,l,L.same n5,λv' x used twice H6 n6 AU u hu ht=> ?_⟩;obtain⟨p',qv,hp,rp,rs,rfl,h1,h2,h3,S,h5⟩:=AU;have J:=n5.trans n6;refine !⟨th,tr,p,rfl,l,L.same J,λp7 H7 t f7=> ?_⟩;have I:=z1y l u.ok;have aF:=z9Y u.ok;have AV:=u.line;have AW:=(kB twice).2;have hsz:(post x).length<=41600:=by
  have:2400 * (((ns.drop (HT.sIx ns.length 0 none)).take (HT.sIx ns.length ns.length (some 12) - HT.sIx ns.length 0 none)).length + 1) * twM twice<=2400 * 13 * 4:=w1c (Qr _ (by lia)) AW
  lia
 have lH:wt x<=8000000:=zbm u.ok hsz (by have:=u.dp;lia);have uX:=uW.trans (J.trans t);refine !(!(zh (t _ _ h1) zH ⟨th,tr,x,qv,p7,rfl,l,f7,h2.same t,I,u.sub,lH,L4.same uX,hL.same uX,rS,rT,rV,λv8 H8 y L8 z8=> ?_⟩));have uY:=((L.same J).same t).ev y;have Z:=y.tup (t _ _ h1);have AX:QAt H8 x qv:=(h2.same t).mono λb xs z=>y.tup z
 have AY:=y.lst (t _ _ h3);have AZ:RowsAt H8 rp rs:=⟨y.lst (t _ _ S.1),λr m=>⟨(S.2 r m).1,y.lst (t _ _ (S.2 r m).2)⟩⟩;refine !⟨th,tr,p,rfl,l,uY,λp9 H9 G f9=> ?_⟩;refine !(zh (G _ _ Z) zH ⟨th,tr,x,qv,p9,rfl,l,f9,AX.same G,I,u.sub,by lia,L8.same G,λaf aa bn ad Y=> ?_⟩);have D:=(Nt.of G).trans bn;have B0:=((f7.ev y).nt D);have O:=jy l I;have X:=u.rows;have bF:∀r∈rowsOf th tr x,r.length<=100:=λr m=>by rw [jo l I r m];exact O.2
 have B2:=z8.nt D;obtain⟨pt,aU,dh,aN,rfl,B,g2,g3,g4⟩:=id Y;refine !(!⟨th,tr,p7,p,rfl,l,B0,uY.nt D,!?_⟩);refine ifF (by rfl) ?_;refine !⟨_,_,_,!⟨TyOf.tup B,jK,!?_⟩⟩;refine ifF (by rfl) ?_;refine !⟨pt,!⟨.inr (SqT.of B),rfl,!?_⟩⟩;refine ifF (by rfl) ?_;refine !(zh B zH ⟨_,_,_,!⟨TyOf.lst g2,jK,!?_⟩⟩);refine ifF (by rfl) ?_;refine !(zh B j8 ⟨_,_,_,!⟨TyOf.lst g3.1,jK,!?_⟩⟩);refine ifF (by rfl) ?_;have lY:=D.tup Z;refine !(!(zh lY jz (!(zh lY z0Q ⟨th,tr,x,_,hp,rp,rs,rfl,Y,D.lst AY,AZ.nt D,h5,O.2,X,bF,!?_⟩))));refine ifF (by rfl) ?_;exact !(!(zh B zH (!(zh B j8 ⟨th,tr,x,v8,aU,dh,aN,rfl,B2,g2,g3,g4,O.2,X,bF,q _⟩))))
end
structure DI(K:W.Frag)(x:Str)(st:Stmt)(f:Addr):Prop where
 ex:∃fd,Fun K x x st f fd
 a:PySem.W.nsIn K mainGlobals x=some (some (.ref f))
 k:PySem.W.keepIn K (.ref f)=true
structure DL(K:W.Frag)(x:Str)(st:Stmt)(f T:Addr):Prop where
 ex:∃fd c,Fun K x x st f fd/\fd.code= .ref c/\PySem.W.codeHdIn K c T=true
 a:PySem.W.nsIn K mainGlobals x=some (some (.ref f))
 k:PySem.W.keepIn K (.ref f)=true
structure Wd(P:Program)(w:World)(K:W.Frag)(mg:Str->Option Value)(base:Heap):Prop where
 ex:∃h:Heap,K.In h/\h.Ns mainGlobals mg
 kb:K.In base
section
variable{K:W.Frag}{x y:Str}{st:Stmt}{f:Addr}{k:Nat}{ps:List Str}{oc kV aS pm ac ct:Value}{od an:Option Addr}{cC:Array (Option Value)}
def di(a:PySem.W.nsIn K mainGlobals x=some (some (.ref f)))(l:K.lookup f=some ⟨oc,od,.func (PySem.W.fnOf x x (z0q st) (jO st) (zi st) .none kV aS pm an ac ct),cC⟩)(c:PySem.W.codeIn K ac x=true)(h:PySem.W.keepIn K (.ref f)=true):DI K x st f:=⟨⟨_,z6c l c h⟩,a,h⟩
theorem dl(a:PySem.W.nsIn K mainGlobals x=some (some (.ref f)))(l:K.lookup f=some ⟨oc,od,.func (PySem.W.fnOf x x (z0q st) (jO st) (zi st) .none kV aS pm an ac ct),cC⟩)(c:PySem.W.codeIn K ac x=true)(h:PySem.W.keepIn K (.ref f)=true)(t:L2.codeOf K ac T=true):DL K x st f T:=by
 obtain⟨c',rfl,z⟩:=L2.codeOf_ex t;exact⟨⟨_,c',z6c l c h,rfl,z⟩,a,h⟩
def Wd.gl{v:Value}(W:Wd P w K mg base)(a:PySem.W.nsIn K mainGlobals x=some (some v)):mg x=some v:=let ⟨_,X,G⟩:=W.ex;PySem.W.mg_of X G a
theorem kn(W:Wd P w K mg base)(d:DI K x st f)(ok:∀{fd},Fun K x x st f fd->FnOk P w K mg base CX0 k f fd ps sp)(b:∀{fd},Fun K x x st f fd->Binds K fd ps []:=by first | exact λF=>F.binds λ_ _ _ _ _ _=>zdh λ_=>rfl | exact λF=>F.binds λ_ _ _ _ _ _=>zbH λ_ _=>rfl | exact λF=>F.binds λ_ _ _ _ _ _=>zdm λ_ _ _=>rfl | exact λF=>F.binds λ_ _ _ _ _ _=>ze9 λ_ _ _ _=>rfl):Kn P w K mg base k x ps sp:=
 let ⟨_,F⟩:=d.ex
 ⟨_,_,ok F,W.gl d.a,d.k,b F⟩
theorem knR(W:Wd P w K mg base)(d:DI K x st f)(ok:∀{fd},Fun K x x st f fd->(∀(kk:Nat) (c:Sp),FnOk P w K mg base CX0 kk f fd ps c->Kn P w K mg base kk x ps c)->FnOk P w K mg base CX0 k f fd ps sp)(b:∀{fd},Fun K x x st f fd->Binds K fd ps []:=by first | exact λF=>F.binds λ_ _ _ _ _ _=>zdh λ_=>rfl | exact λF=>F.binds λ_ _ _ _ _ _=>zdm λ_ _ _=>rfl):Kn P w K mg base k x ps sp:=
 let ⟨_,F⟩:=d.ex
 ⟨_,_,ok F λ_ _ h=>⟨_,_,h,W.gl d.a,d.k,b F⟩,W.gl d.a,d.k,b F⟩
theorem knS{sp:SpS}(W:Wd P w K mg base)(d:DI K x st f)(ok:∀{fd},Fun K x x st f fd->FnOkS P w K mg base CX0 k f fd ps sp)(b:∀{fd},Fun K x x st f fd->Binds K fd ps []:=by exact λF=>F.binds λ_ _ _ _ _ _=>zbH λ_ _=>rfl):KnS P w K mg base CX0 k x ps sp:=
 let ⟨_,F⟩:=d.ex
 ⟨_,_,ok F,W.gl d.a,d.k,b F⟩
theorem knL(W:Wd P w K mg base)(d:DL K x st f T)(ok:∀{fd c},Fun K x x st f fd->fd.code= .ref c->PySem.W.CodeHd base c T->FnOk P w K mg base CX0 k f fd ps sp)(b:∀{fd},Fun K x x st f fd->Binds K fd ps []:=by exact λF=>F.binds λ_ _ _ _ _ _=>zbH λ_ _=>rfl):Kn P w K mg base k x ps sp:=
 let ⟨_,_,F,hc,z⟩:=d.ex
 ⟨_,_,ok F hc (PySem.W.codeHd_of_K W.kb z),W.gl d.a,d.k,b F⟩
structure DM(K:W.Frag)(C:Addr)(x y:Str)(st:Stmt)(f:Addr):Prop where
 ex:∃fd,Fun K x y st f fd
 a:PySem.W.findIn K (.ref C) x=some (some (.ref f))
 n:PySem.W.isFn K (.ref f)=true
 k:PySem.W.keepIn K (.ref f)=true
structure DN(K:W.Frag)(C:Addr)(x y:Str)(st:Stmt)(f T:Addr):Prop where
 ex:∃fd c,Fun K x y st f fd/\fd.code= .ref c/\PySem.W.codeHdIn K c T=true
 a:PySem.W.findIn K (.ref C) x=some (some (.ref f))
 n:PySem.W.isFn K (.ref f)=true
structure DC(K:W.Frag)(x:Str)(C:Addr):Prop where
 a:PySem.W.nsIn K mainGlobals x=some (some (.ref C))
 m:PySem.W.makesIn K C=true
 k:PySem.W.keepIn K (.ref C)=true
def dm(a:PySem.W.findIn K (.ref C) x=some (some (.ref f)))(l:K.lookup f=some ⟨oc,od,.func (PySem.W.fnOf x y (z0q st) (jO st) (zi st) .none kV aS pm an ac ct),cC⟩)(c:PySem.W.codeIn K ac y=true)(h:PySem.W.keepIn K (.ref f)=true)(n:PySem.W.isFn K (.ref f)=true):DM K C x y st f:=⟨⟨_,z6c l c h⟩,a,n,h⟩
theorem dn(a:PySem.W.findIn K (.ref C) x=some (some (.ref f)))(l:K.lookup f=some ⟨oc,od,.func (PySem.W.fnOf x y (z0q st) (jO st) (zi st) .none kV aS pm an ac ct),cC⟩)(c:PySem.W.codeIn K ac y=true)(h:PySem.W.keepIn K (.ref f)=true)(n:PySem.W.isFn K (.ref f)=true)(t:L2.codeOf K ac T=true):DN K C x y st f T:=by
 obtain⟨c',rfl,z⟩:=L2.codeOf_ex t;exact⟨⟨_,c',z6c l c h,rfl,z⟩,a,n⟩
def dc(a:PySem.W.nsIn K mainGlobals x=some (some (.ref C)))(m:PySem.W.makesIn K C=true)(h:PySem.W.keepIn K (.ref C)=true):DC K x C:=⟨a,m,h⟩
theorem knM(W:Wd P w K mg base)(c:Cls K C)(d:DM K C x y st f)(ok:∀{fd},Fun K x y st f fd->FnOk P w K mg base CX0 k f fd ps sp)(b:∀{fd},Fun K x y st f fd->Binds K fd ps []:=by first | exact λF=>F.binds λ_ _ _ _ _ _=>zdh λ_=>rfl | exact λF=>F.binds λ_ _ _ _ _ _=>zbH λ_ _=>rfl):KnM P w K mg base k x ps sp C:=
 let ⟨_,F⟩:=d.ex
 ⟨c,_,_,⟨d.a,d.n,d.k⟩,ok F,b F⟩
theorem knC{z:Str}(W:Wd P w K mg base)(e:DC K z C)(d:DM K C "__init__" y st f)(ok:∀{fd},Fun K "__init__" y st f fd->FnOk P w K mg base CX0 k f fd ps sp)(b:∀{fd},Fun K "__init__" y st f fd->Binds K fd ps []:=by exact λF=>F.binds λ_ _ _ _ _ _=>ze9 λ_ _ _ _=>rfl):KnC P w K mg base k z ps sp C:=
 let ⟨_,F⟩:=d.ex
 ⟨_,_,⟨e.m,d.a,d.n,e.k⟩,ok F,W.gl e.a,b F⟩
theorem knN{z:Str}(W:Wd P w K mg base)(e:DC K z C)(d:DN K C "__init__" y st f T)(ok:∀{fd c},Fun K "__init__" y st f fd->fd.code= .ref c->PySem.W.CodeHd base c T->FnOk P w K mg base CX0 k f fd ps sp)(b:∀{fd},Fun K "__init__" y st f fd->Binds K fd ps []:=by exact λF=>F.binds λ_ _ _ _ _ _=>zdm λ_ _ _=>rfl):KnC P w K mg base k z ps sp C:=
 let ⟨_,_,F,hc,h⟩:=d.ex
 ⟨_,_,⟨e.m,d.a,d.n,e.k⟩,ok F hc (PySem.W.codeHd_of_K W.kb h),W.gl e.a,b F⟩
end
variable{l:PySem.W.OpenLaw}
theorem all_mk{K:W.Frag}{h:Heap}{O f0 f1 f2 f3 f4 f5 f6 f7 f8 f9 oI oJ oK oM oN Z oP oQ oR oS oT B3 B4 B5 B6 B7 B8 B9 Ba Bb Bc Bd Be Bf Bg Bh Bi Bj Bk Bl Bm Bn Bo Bp Bq Br Bs Bt Bu Bv Bw Bx By Bz BA BB BC BD BE BF BG BH BI BJ BK BL BM c d f n j:Addr}(X:K.In h)(G:h.Ns mainGlobals mg)(BN:mg "law"=some (.ref O))
  (BO:DC K "Place" n) (b:PC K n)
  (BP:DC K "Turner" j) (i:TC K j)
  (d0:DI K "number_of" z1Q f0)
  (d1:DI K "compared" z2t f1)
  (d2:DI K "holds" z6h f2)
  (d3:DI K "columns_of" z1u f3)
  (d4:DI K "straight_within" kr f4)
  (d5:DI K "inner_first" z0Y f5)
  (d6:DI K "built_up" z2k f6)
  (d7:DI K "heads_of_table" kQ f7)
  (d8:DI K "check_columns" z0e f8)
  (d9:DI K "each_once" z1J f9)
  (BQ:DI K "heads_over_one" kJ oI)
  (U:DI K "heads_over_two" kF oJ)
  (d12:DI K "heads_at" z2m oK)
  (d13:DL K "heads_of" z1n oM d)
  (BS:DI K "joined" z4u oN)
  (BT:DI K "grouped" z25 Z)
  (BU:DL K "in_order" z0H oP c)
  (BV:DI K "rows_of_table" yR oQ)
  (BW:DI K "numbers_at" z0o oR)
  (BX:DI K "paired" z2O oS)
  (BY:DI K "rows_over_one" jT oT)
  (BZ:DI K "rows_over_two" z0c B3)
  (C0:DI K "rows_at" z37 B4)
  (d23:DI K "answer_at" z0L B5)
  (C3:DL K "plain_answer" ko B6 f)
  (C4:DI K "_law_texts" z1r B7)
  (C5:DI K "_law_whole" z1s B8)
  (C6:DI K "_law_numbers" z0E B9)
  (C7:DI K "_law_alike" z1v Ba)
  (C8:DI K "_law_answers" z0z Bb)
  (C9:DI K "_law_again" ke Bc)
  (Ca:DI K "_law_kept" z1R Bd)
  (Cb:DI K "_law_wide" z1Y Be)
  (Cc:DI K "_law_stocked" jN Bf)
  (Cd:DI K "_law_spelt" k8 Bg)
  (Ce:DI K "_law_true" z03 Bh)
  (Cf:DI K "_law_asking" z0S Bi)
  (Cg:DI K "_law_picked" kT Bj)
  (Ch:DI K "_law_columns" yh Bk)
  (Ci:DI K "_law_sorted" kX Bl)
  (Cj:DI K "_law_headed" z0X Bm)
  (rS:DI K "_law_doubled" z0D Bn)
  (rT:DI K "_law_beside" z14 Bo)
  (rV:DI K "_law_united" kU Bp)
  (Ck:DI K "_law_counted" ye Bq)
  (Cl:DI K "_law_grown" z1i Br)
  (Cm:DM K n "__init__" "Place.__init__" z0l Bs)
  (Co:DI K "is_pick" z3q Bt)
  (Cp:DI K "picked" z4l Bu)
  (Cq:DI K "among" z3X Bv)
  (Cr:DI K "joined_by" z1U Bw)
  (Cs:DI K "sent_to_a_part" kP Bx)
  (Ct:DI K "sent_within" kW By)
  (Cu:DI K "takes" z5X Bz)
  (Cv:DI K "passes" z4r BA)
  (Cw:DI K "turned_pick" z0U BB)
  (Cy:DI K "turned_first" z0C BC)
  (Cz:DI K "turned" z4j BD)
  (CA:DI K "place_over" z0k BE)
  (CB:DN K j "__init__" "Turner.__init__" z01 BF Tb)
  (CD:DM K j "go_within" "Turner.go_within" yV BG)
  (CF:DM K j "go_back" "Turner.go_back" kG BH)
  (CG:DM K j "turn" "Turner.turn" yP BI)
  (CI:DM K j "whole" "Turner.whole" kf BJ)
  (CJ:DI K "last_turning" z0F BK)
  (CK:DI K "clever_answer" z0g BL)
  (z:DI K "law" z5d BM)
  (z0:PySem.W.nsIn K mainGlobals "isinstance"=some none)
  (z1:PySem.W.nsIn K mainGlobals "int"=some none)
  (z2:PySem.W.nsIn K mainGlobals "bool"=some none)
  (z3:PySem.W.nsIn K mainGlobals "list"=some none)
  (z4:PySem.W.nsIn K mainGlobals "tuple"=some none)
  (z5:PySem.W.nsIn K mainGlobals "str"=some none)
  (z6:PySem.W.nsIn K mainGlobals "len"=some none)
  (z7:PySem.W.nsIn K mainGlobals "range"=some none)
  (z8:PySem.W.nsIn K mainGlobals "min"=some none)
  (z9:PySem.W.nsIn K mainGlobals "max"=some none)
  (nL:PySem.W.nsIn K mainGlobals "sum"=some none)
  (CM:PySem.W.nsIn K mainGlobals "sorted"=some none)
  (CN:PySem.W.nsIn K mainGlobals "reversed"=some none)
  (CO:PySem.W.nsIn K mainGlobals "zip"=some none)
  {q:Addr} {CP:Option Addr} {CQ:Array (Option Value)} {nC:Nat} {t1 t2:Tok} (aC:PySem.W.nsIn K mainGlobals "COMPARISONS"=some (some (.ref q))) (lC:K.lookup q=some ⟨.type "tuple",CP,.seq #[.str "less" t1,.str "same" t2] nC,CQ⟩)
  {u:Addr} {CS:Option Addr} {CT:Array (Option Value)} {nT:Nat} {t3 t4 t5:Tok} (aT:PySem.W.nsIn K mainGlobals "TWOFOLD"=some (some (.ref u))) (lT:K.lookup u=some ⟨.type "tuple",CS,.seq #[.str "pair" t3,.str "join" t4,.str "both" t5] nT,CT⟩)
  (zs:PySem.W.nsIn K mainGlobals "set"=some none)
  (rX:decide (d=f)=false) (rY:decide (d=c)=false) (rZ:decide (f=c)=false) (sg:decide (Tb=d)=false) (si:decide (Tb=f)=false) (sj:decide (Tb=c)=false)
  (CU:PySem.W.nsIn K mainGlobals "enumerate"=some none) (CV:PySem.W.nsIn K mainGlobals "all"=some none)
  :∃fd:FuncData,(∀(s:Shared) (v:Value),BindsTo s fd ⟨[v],[]⟩ [("_law_script",v)])/\∀base:Heap,K.In base->base.Ns mainGlobals mg->(∀T∈ [Tb,c,d,f],base.BuiltinsAt mg T)->FnOk l.prog w K mg base CX0 14 O fd ["_law_script"] (spLaw K d f c Tb):=by
 have e:=BN.symm.trans (PySem.W.mg_of X G z.a);cases e;have T:Txt K mg:=⟨qI X G z0,qI X G z1,qI X G z2,qI X G z3,qI X G z4,qI X G z5,qI X G z6,qI X G z7,qI X G z8,qI X G z9,qI X G nL,qI X G CM,qI X G CN,qI X G CO⟩;have R:TxtP K mg:=⟨⟨q,PySem.W.mg_of X G aC,λH=> .inr ⟨_,_,_,lC,rfl,rfl,(by show 2<=sizeLine;decide),.cons ⟨_,rfl⟩ (.cons ⟨_,rfl⟩ .nil)⟩⟩,qI X G zs,⟨u,PySem.W.mg_of X G aT,λH=> .inr ⟨_,_,_,lT,rfl,rfl,(by show 3<=sizeLine;decide),.cons ⟨_,rfl⟩ (.cons ⟨_,rfl⟩ (.cons ⟨_,rfl⟩ .nil))⟩⟩⟩;have M:TxtM K mg:=⟨qI X G CV,qI X G CU⟩;obtain⟨fd,F⟩:=z.ex;obtain⟨oc,od,kV,dc,pm,an,cd,ct,sl,rfl,lk,ax⟩:=id F.ex;refine⟨PySem.W.fnOf "law" "law" (z0q z5d) (jO z5d) (zi z5d) .none kV dc pm an cd ct,λs v=> .of_eq rfl,λbase mE _ p=> ?_⟩;have W:Wd l.prog w K mg base:=⟨⟨h,X,G⟩,mE⟩;have n0:=kn W d0 λF=>z5Q F T
 have n1:=kn W d1 λF=>z7o F T n0
 have n2:=kn W d2 λF=>zbi F T R n1
 have P:=kn W d3 λF=>z53 F T
 have E:=kn W d4 λF=>z2w F T R
 have n5:=kn W d5 λF=>z49 F T E
 have t:=knS W d6 λF=>z7a (k:=8) (by decide) F T n5 E
 have n7:=kn W d7 λF=>z2F F T
 have A:=kn W d8 λF=>z3p F T
 have N:=kn W d9 λF=>z6q F T R
 have bn:=kn W BQ λF=>z2R F T A P N
 have bN:=kn W U λF=>z2Z F T A N
 have n12:=kn W d12 λF=>z6W F T n7 bn bN
 have aM:=knL (sp:=(spHeadsOf K d f c)) W d13 λF hc C=>z7k F T hc C (p _ (by simp)) t n12
 have bo:=kn W BS λF=>zaj F T
 have bR:=kn W BT λF=>z85 F T
 have bS:=knL (sp:=(spOrder K c)) W BU λF hc C=>z7H F T hc C (p _ (by simp))
 have bG:=kn W BV λF=>z3g F T
 have bA:=kn W BW λF=>z5a F T
 have bq:=kn W BX λF=>zas F T
 have br:=kn (sp:=(spR1 K d f c)) W BY λF=>z3r F T n2 bA bR bS
 have CW:=kn W BZ λF=>z3j F T bq bo
 have CY:=kn W C0 λF=>z8c F T bG br CW
 have CZ:=kn W d23 λF=>z5S F T n12 CY
 have D:=knL (sp:=(spPlain K d f c)) W C3 λF hc C=>z3S F T hc C (p _ (by simp)) aM t CZ
 have y:=kn W C4 λF=>z4V F T
 have D0:=kn W C5 λF=>z4S F T
 have D2:=kn W C6 λF=>z3T F T D0
 have I:=kn W C7 λF=>z4T F T D2
 have D3:=kn W C8 λF=>z3R F T y I
 have D4:=kn W C9 λF=>z55 F T
 have D5:=kn W Ca λF=>z5U F T y I
 have D6:=kn W Cb λF=>z5W F T
 have D7:=kn W Cc λF=>z3O F T
 have D8:=knR (k:=7) W Cd λF r=>z2i F T r 7
 have D9:=knR (k:=7) W Ce λF r=>z2V F T r 7
 have Da:=kn W Cf λF=>z4y F T
 have J:=kn W Cg λF=>z4p F T Da D9 D8
 have Db:=kn W Ch λF=>z3W F T
 have L:=kn W Ci λF=>z4t F T
 have S:=kn W Cj λF=>z4n F T
 have Dd:=kn W rS λF=>z3J F T J
 have De:=kn W rT λF=>z4J F T
 have Df:=kn W rV λF=>z4h F T L S
 have Dg:=kn W Ck λF=>z3V F T
 have Dh:=kn W Cl λF=>z4U F T J Db Df De Dd S Dg L
 have o:=knC W BO Cm λF=>z58 F T b
 have B:=kn (sp:=(spIsPick n)) W Co λF=>z8E F T b
 have x:=kn W Cp λF=>z9F F T b o
 have Di:=kn W Cq λF=>zc0 F T M
 have Dj:=kn W Cr λF=>z6E F T b o
 have Dk:=kn W Cs λF=>z2y F T b o P Di x Dj
 have Q:=kn W Ct λF=>z4c F T b o x Dk
 have Dl:=kn (sp:=(spTakes n)) W Cu λF=>zbC F T Q
 have Dm:=kn W Cv λF=>z9D F T b B Dl
 have Do:=kn W Cw λF=>z4R F T b B Q Dm x
 have lX:=kn W Cy λF=>z3I F T b o
 have mR:=kn W Cz λF=>za2 F T b o Do lX
 have bH:=kn W CA λF=>z59 F T b o n12
 have ff:=knN (sp:=(spTInit n j d f c Tb)) W BP CB λF hc C=>z4L F T i hc C (p _ (by simp)) t bH
 have Y:=knM (sp:=(spGoW n j)) W i.cls CD λF=>z2c F T b i
 have Dr:=knM (sp:=(spGoB n j)) W i.cls CF λF=>z2M F T b i o
 have Dt:=knM (sp:=(spTurn n j)) W i.cls CG λF=>z4k F T M b i Dr Y mR
 have Du:=knM (sp:=(spTWhole n j)) W i.cls CI λF=>z3L F T b i
 have Dv:=kn W CJ λF=>z3U F T ff Dt Du
 have Dw:=kn W CK λF=>z35 F T D Dv
 exact zdW F T (C:=n) (w04 rX) (w04 rY) (w04 rZ) (w04 sg) (w04 si) (w04 sj) D6 D7 Dh D4 Dw D D5 D3
theorem walk{q:Program}{loose:List Str}{y:(Str->Option Value)->Heap->Prop}{j:World->Heap->Prop}{d:DefRec}{K:Params->W.Frag}{e b c:Addr}(hn:l.most=some 63)(A:d.params.defaults= [])
  (r:∀(w:World) (h:Heap),j w h->(K w.params).In h/\∀T∈ [Tb,e,b,c],h.get? T=some (PySem.W.tabObj #[])) (z:∀(w:World),∀T∈ [Tb,e,b,c],L2.codeTabIn (K w.params) T=true) (p:∀(w:World),∀T∈ [Tb,e,b,c],(K w.params).lookup T=none)
  (F:∀(w:World) (mg:Str->Option Value) (o:Addr) (h:Heap),(K w.params).In h->h.Ns mainGlobals mg->mg d.name=some (.ref o)->
   ∃fd:FuncData,(∀(s:Shared) (u:Value),BindsTo s fd ⟨[u],[]⟩ [("_law_script",u)])/\∀base:Heap,(K w.params).In base->base.Ns mainGlobals mg->(∀T∈ [Tb,e,b,c],base.BuiltinsAt mg T)->FnOk l.prog w (K w.params) mg base CX0 14 o fd ["_law_script"] (spLaw (K w.params) b c e Tb)):
  PySem.W.WalkO q loose y j l.row.toRowW d [] (λf vs=>PySem.call f vs):=
 L2.walk_ofT (n:=63) (k:=14) (x:="_law_script") (sp:=λw=>spLaw (K w.params) b c e Tb) hn (by decide) A ⟨rfl,by decide,by decide⟩ r z p F λ_ _ a ns hl t i=>⟨a,ns,rfl,t,hl,.inl (i _ (by simp)),.inl (i _ (by simp)),.inl (i _ (by simp)),.inl (i _ (by simp)),λ_=>rfl⟩
end Q12
structure PySem.W.Fast:Prop where
 (tw10039445169769530608 tw10206025630119339083 tw10266278245568858245 tw10506258734639402430 tw10577788768373926606 tw10605178172688703073 tw10649515130055432182 tw10839089662799824265 tw10857077693571043110 tw11031904127725529553 tw11073117213938123277 tw11125464271850301803 tw11133298339225403277 tw11206212677993037143 tw11238617634468346886 tw11279797043048616052 tw11308746449002043282 tw11315175821534034218 tw11549297797673012457 tw11578420315779979975 tw11715298072409582273 tw1178007924585075346 tw11785792161417118777 tw118118319615145054 tw11835671960434521706 tw12234666908527564160 tw12283216170070397286 tw12293354368729485639 tw12374726713665937041 tw12623726084957510256 tw1277158783563966431 tw12921423681749888895 tw12960010864727673243 tw12980339930129780742 tw12993295019948100774 tw13006249192631006076 tw13052628035718910593 tw13174131072767923699 tw13203738545972988391 tw13380509129456478872 tw13446688588627587082 tw13471367534305817053 tw13518624748949858646 tw13531527645192624226 tw13677629128364344520 tw13689621744231555837 tw13704980515914467238 tw13835400552409053786 tw13848966032599316188 tw13873927124848865014 tw13987097576090610744 tw1404909898741816 tw14145906912819408089 tw14163255940334626038 tw14179693023614215862 tw14255808494652944693 tw14270573780093318644 tw14301454627431206770 tw14425037118559359024 tw14460235004688812061 tw14465289087927996691 tw1461273316049732621 tw14719547868704525762 tw14951157113905879183 tw15122037169839561423 tw15131098477299509894 tw15137483361013648842 tw15153883563610075427 tw15184616322934303001 tw15282871301526237892 tw15285908193564415465 tw15349012362434320472 tw15391924952068227020 tw15454960312151619245 tw15480320929111621309 tw15711865723017730240 tw15955883739485102935 tw16163132489606387250 tw16333052448127508561 tw16404350587582165646 tw16464644810069132952 tw16487058086894077095 tw16516324299530123205 tw16547959179945354329 tw1658457028963285071 tw16633533971083425714 tw16800446385961818527 tw16932020822667782273 tw17002721977336010882 tw1702820917050780167 tw17032345868893912299 tw17045680028465747431 tw17076314947121748269 tw17089261947533878520 tw17136034958387140779 tw17333592283099707067 tw17595565937131381041 tw17638487356515168638 tw17670646345480446849 tw17671460970227621256 tw1783346199093758252 tw17874428974473257939 tw17973851145469665857 tw18433148136959348943 tw1863349388438814402 tw1864960432551485140 tw2091930865558946563 tw2399742066672628092 tw2570219199948906505 tw2596369973439465502 tw2639723274258959872 tw2772882955148425902 tw2906954329733237079 tw3102160914498409011 tw3297576338601098401 tw3332406120478082295 tw342180234582430862 tw3566538353099336888 tw3661912995636896149 tw3760958578722633930 tw3834889464642241750 tw3902157082701919367 tw3985232759906925176 tw4229043635996083443 tw4262624770007627885 tw4361799973610086348 tw4450670510021518024 tw4561613414110489301 tw4595594737444287835 tw4743491079149739409 tw5087445804130743800 tw5266828962983101862 tw5338328011019490178 tw5340402979825731982 tw5380206366514596016 tw5568209883903625197 tw5596270579505145335 tw5601610786027356283 tw5635103920355721208 tw5678926696568339303 tw5693710211404478685 tw5796652074403577439 tw6159298302832297327 tw6205595146878688749 tw635199478908170381 tw6478810328204150479 tw651137066961720769 tw657435176222419280 tw6591043326028497516 tw6835986892839049753 tw6878323214243818381 tw6909456299840135323 tw7014845669889764246 tw7240701681526368479 tw7245651709784997862 tw7500839604224259984 tw7793128033993155741 tw792077693819893878 tw8046092866978841934 tw806786692009576073 tw8245944789989193583 tw8280477515407347176 tw8294092947392602637 tw840123874116129233 tw8575013062774217617 tw8747440648592314097 tw8753732105352030350 tw8817029332471470372 tw8992662293541663161 tw9093643026550896231 tw9119342555968212884 tw9363562872542120535 tw9451212575861992442 tw9490624918596822824 tw9541026801377827372 tw9665883379771328879 tw9858970241907009919 tw9899976454444560657 tw9956477228516156286 tw9965055977783073092 tw9987428165971070896 tw15474419161076288169 tw2306635905555447083 tw12745497262638798405 tw916094878150605127 tw10130364605100869686 tw3693041146188595299 tw37151652157229445 tw4603223903432526118 tw13718694280206385245 tw1079880277612659521 tw8696074863082654329 tw2224452819079560792 tw17763045780513717205 tw17526571136560903629 tw7692592386803873621 tw775472902975500747 tw8887748288986006596 tw16406603628250404052 tw12651679425142798645 tw9415981551956827146 tw16352323330240796336 tw16224040391941662886 tw230883508253227068 tw13282754616797076207 tw13255819850004230694 tw12480623037891853104 tw17969767276616194104 tw8902310405000675184 tw11328507909728146655 tw10699418838091548240 tw1667997243059418854 tw14873501397383306586 tw14340592254692796665 tw2630819740560631372 tw13501784457535358197 tw9806544757775668604 tw3454486707888826816 tw18086141804004776716 tw4243337413547702348 tw1934149967690243546 tw9751542492810282609 tw8165949891325509173 tw1304331644656646111 tw9072600353936495820 tw7567224791682205964 tw4137765202124199741 tw13628732141355422093 tw8690139058311638113 tw15514839444306858641 tw8750844206030255232 tw15949285327513388695 tw12933158838205843934 tw16109203838177804688 tw15932607131676262897 tw3253796753787197180 tw272213287233283593 tw1714221560168462681 tw13667020824949617800 tw9880286048285783672 tw5735897039550982081 tw7059280883972400465 tw9402413483618466250 tw689980052365003938 tw15920074792652414515 tw9607252179854199946 tw9024947996155095147 tw2350294555949823865 tw11777906117179927557 tw5639790555001923582 tw7806081945613662208 tw6758356033103629434 tw4452135068910820202 tw9139330715134108650 tw3847054861882570219 tw8420685982005239591 tw12012127854629009097 tw10115449897149280358 tw11931390363267032801 tw6084232834881650796 tw12355684342552208189 tw12020776692206971710 tw10130508721063773798 tw8492977597979031147 tw5914815585262848729 tw1764101025785706116 tw10489918856772193659 tw5614443564808161784 tw2742914903795560105 tw1170272304539979717 tw10365738161449848820 tw9870880514408189277 tw6224136343765228412 tw17154850323820101011 tw15304049119914538596 tw7382949849957822302 tw6602173218158911154 tw6546670640749696775 tw1717097960087879327 tw16566497371006096507 tw11934957480238471143 tw7181326790632522506 tw5168115442346352205 tw15873045360277347001 tw8867642589249109523 tw11728434629440647598 tw7436315229902972057 tw6774768914894368836 tw4681269481786600365 tw3084198021361570345 tw15225876302137032641:True)
open PySem PySem.W PyProof.Rows
set_option maxRecDepth 100000 in
set_option maxHeartbeats 0 in
theorem PySem.Challenge.cw_sheetask_k12_whole_clever_is_plain_holds : PySem.Challenge.rw_sheetask_k12_whole_clever_is_plain.Holds := by
 w_on;o_law;k_head;(case hw=>w_witness2)
 k_fill
 refine Q12.walk (l:=PySem.Challenge.rw_sheetask_k12_whole_clever_is_plain) rfl rfl (λw h Y=>⟨PySem.W.km_in_of Y,PySem.W.km_tabs_of Y⟩) (λw=>QA.mpr ⟨by kernel_rfl,QA.mpr ⟨by kernel_rfl,QA.mpr ⟨by kernel_rfl,QA.mpr ⟨by kernel_rfl,λ_ h=>nomatch h⟩⟩⟩⟩) (λw=>QA.mpr ⟨by kernel_rfl,QA.mpr ⟨by kernel_rfl,QA.mpr ⟨by kernel_rfl,QA.mpr ⟨by kernel_rfl,λ_ h=>nomatch h⟩⟩⟩⟩) ?F
 case F=>
  intro w mg fa h KX G hmg;refine' Q12.all_mk KX G hmg ?_ ?_ ?_ ?_ ?_ ?_ ?_ ?_ ?_ ?_ ?_ ?_ ?_ ?_ ?_ ?_ ?_ ?_ ?_ ?_ ?_ ?_ ?_ ?_ ?_ ?_ ?_ ?_ ?_ ?_ ?_ ?_ ?_ ?_ ?_ ?_ ?_ ?_ ?_ ?_ ?_ ?_ ?_ ?_ ?_ ?_ ?_ ?_ ?_ ?_ ?_ ?_ ?_ ?_ ?_ ?_ ?_ ?_ ?_ ?_ ?_ ?_ ?_ ?_ ?_ ?_ ?_ ?_ ?_ ?_ ?_ ?_ ?_ ?_ ?_ ?_ ?_ ?_ ?_ ?_ ?_ ?_ ?_ ?_ ?_ ?_ ?_ ?_ ?_ ?_ ?_ ?_ ?_ ?_ ?_ ?_ ?_ ?_
  all_goals first | (apply Q12.di;k_is;k_is;k_is;k_is) | (apply Q12.dl;k_is;k_is;k_is;k_is;kernel_rfl) | (apply Q12.dm;k_is;k_is;k_is;k_is;kernel_rfl) | (apply Q12.dn;k_is;k_is;k_is;k_is;kernel_rfl;kernel_rfl) | (apply Q12.dc;k_is;kernel_rfl;k_is) | (refine⟨⟨?_,?_,?_,?_⟩,?_,?_,?_,?_,?_⟩ <;> (try delta L2.NoAttr) <;> kernel_rfl) | (refine⟨⟨?_,?_,?_,?_⟩,?_,?_⟩ <;> (try delta L2.NoAttr) <;> kernel_rfl) | k_is | kernel_rfl | skip
#print axioms PySem.Challenge.cw_sheetask_k12_whole_clever_is_plain_holds

import PyProof.Rows.All
import Wide.All
import OpenK.AllK
import Wide.FinOn
import Lean
import PyProof.EqAt
import PyProof.EqKinds
import PyProof.TupleCall
import KE.KIsAll
import KE.KItem
import KE.KxBytes
import KE.KDictSum
import KE.KDictLaws
import KE.KSortAsk
import KE.KSortTup
import KE.KLam
import KE.KNestM
import KE.KRevIter
import KE.KDictList
import PyProof.ExcArgs
import PyProof.Rows.StrCase
import PyProof.Rows.SetFrom
import PyProof.SetRoads
import PyProof.AutoSeq1
import KE.KTryMore
import PyProof.ZipIter
import PySem.Challenge.RW_sheetask_k06_plain_answer
set_option Elab.async false
set_option linter.all false
set_option maxRecDepth 100000
namespace L2
open PySem PySem.Spec PyProof.Rows
noncomputable abbrev Key := Sum Int Str
noncomputable def z2k : Key → Value → Bool
  | .inl k, v => Value.isInt k v
  | .inr x, v => Value.isStrOf x v
noncomputable def zaW (w : World) : Key → Int
  | .inl k => hashInt k
  | .inr x => hashStr w x
theorem jj : ∀ {k : Key} {v : Value}, z2k k v = true → (∃ i t, k = Sum.inl i ∧ v = Value.int i t) ∨ (∃ x t, k = Sum.inr x ∧ v = Value.str x t)
  | .inl i, v, h => by
    obtain ⟨t, e⟩ := Value.isInt_shape (k := i) (v := v) h;exact .inl ⟨i, t, rfl, e⟩
  | .inr x, v, h => by
    obtain ⟨t, e⟩ := Value.isStrOf_shape (x := x) (v := v) h;exact .inr ⟨x, t, rfl, e⟩
theorem z7o (i : Int) (t : Tok) : z2k (.inl i) (.int i t) = true := by simp [z2k, Value.isInt]
theorem z78 (x : Str) (t : Tok) : z2k (.inr x) (.str x t) = true := by simp [z2k, Value.isStrOf]
theorem za2 (a b : Int) : decide ((Sum.inl a : Key) = Sum.inl b) = (a == b) := by
  by_cases e : a = b
  · subst e; simp
  · have h : ¬ (Sum.inl a : Key) = Sum.inl b := fun q => e (Sum.inl.inj q)
    rw [decide_eq_false h];exact (beq_eq_false_iff_ne.mpr e).symm
theorem za9 (a b : Str) : decide ((Sum.inr a : Key) = Sum.inr b) = decide (a = b) := by
  by_cases e : a = b
  · subst e; simp
  · have h : ¬ (Sum.inr a : Key) = Sum.inr b := fun q => e (Sum.inr.inj q)
    rw [decide_eq_false h, decide_eq_false e]
theorem za1 (a : Int) (b : Str) : decide ((Sum.inl a : Key) = Sum.inr b) = false := decide_eq_false (fun q => nomatch q)
theorem z9H (a : Str) (b : Int) : decide ((Sum.inr a : Key) = Sum.inl b) = false := decide_eq_false (fun q => nomatch q)
noncomputable def jh (prog : Program) (w : World) : PySem.KeyKind prog w Key where
  is := z2k
  hash := zaW w
  inj := fun v a b ha hb => by
    rcases jj ha with ⟨i, t, rfl, rfl⟩ | ⟨x, t, rfl, rfl⟩
    · rcases jj hb with ⟨j, u, rfl, e⟩ | ⟨y, u, rfl, e⟩
      · injection e with e1 _; rw [e1]
      · exact nomatch e
    · rcases jj hb with ⟨j, u, rfl, e⟩ | ⟨y, u, rfl, e⟩
      · exact nomatch e
      · injection e with e1 _; rw [e1]
  byValue := fun k v h => by
    rcases jj h with ⟨i, t, rfl, rfl⟩ | ⟨x, t, rfl, rfl⟩ <;> rfl
  pyHash := fun hv h => by
    rcases jj hv with ⟨i, t, rfl, rfl⟩ | ⟨x, t, rfl, rfl⟩
    · exact wpAny_pyHash_int h
    · exact wpAny_pyHash_str h
  eqBool := fun hu hv h => by
    rcases jj hu with ⟨i, t, rfl, rfl⟩ | ⟨x, t, rfl, rfl⟩
    · rcases jj hv with ⟨j, u, rfl, rfl⟩ | ⟨y, u, rfl, rfl⟩
      · rw [za2] at h; exact wpAny_eqBool_int h
      · rw [za1] at h; exact SeqAt.EqAt.int_str i t y u _ _ _ _ h
    · rcases jj hv with ⟨j, u, rfl, rfl⟩ | ⟨y, u, rfl, rfl⟩
      · rw [z9H] at h; exact SeqAt.EqAt.str_int x t j u _ _ _ _ h
      · rw [za9] at h; exact wpAny_eqBool_str h
  «strs» := fun k x t v h => by
    rcases jj h with ⟨i, u, rfl, e⟩ | ⟨y, u, rfl, e⟩
    · exact nomatch e
    · injection e with e1 _
      subst e1;cases v <;> rfl
theorem z54 (prog : Program) (w : World) (i : Int) (t : Tok) : (jh prog w).is (.inl i) (.int i t) = true := z7o i t
theorem z53 (prog : Program) (w : World) (x : Str) (t : Tok) : (jh prog w).is (.inr x) (.str x t) = true := z78 x t
end L2
namespace L2
open PySem PySem.Spec PyProof.Rows
inductive V where
  | non | bl (b : Bool) | int (i : Int) | str (x : Str) | byt (b : Array UInt8) | flt (b : UInt64) | ref (a : Addr) | ty (n : String)
  deriving DecidableEq
noncomputable def RelV : V → Value → Prop
  | .non, u => u = Value.none
  | .bl b, u => u = Value.bool b
  | .int i, u => ∃ t, u = Value.int i t
  | .str x, u => ∃ t, u = Value.str x t
  | .byt b, u => ∃ t, u = Value.bytes b t
  | .flt b, u => ∃ t, u = Value.float b t
  | .ref a, u => u = Value.ref a
  | .ty n, u => u = Value.type n
noncomputable abbrev zP : List V → List Value → Prop := Paired RelV
theorem zP.length {xs : List V} {us : List Value} (r : zP xs us) : xs.length = us.length := Paired.length r
theorem zP.get : ∀ {xs : List V} {us : List Value} {i : Nat} {x : V}, zP xs us → xs[i]? = some x → ∃ u, us[i]? = some u ∧ RelV x u
  | _, _, _, _, .nil, e => by simp at e
  | _, _, 0, _, .cons r _, e => by simp at e; subst e; exact ⟨_, rfl, r⟩
  | _, _, i + 1, x, .cons _ t, e => by
    obtain ⟨u, h1, h2⟩ := zP.get (i := i) (x := x) t (by simpa using e);exact ⟨u, by simpa using h1, h2⟩
theorem zP.set {x : V} {u : Value} (r : RelV x u) : ∀ {xs : List V} {us : List Value} (i : Nat), zP xs us → zP (xs.set i x) (us.set i u)
  | _, _, _, .nil => .nil
  | _, _, 0, .cons _ t => .cons r t
  | _, _, i + 1, .cons q t => .cons q (zP.set r i t)
theorem zP.append : ∀ {xs ys : List V} {us ws : List Value}, zP xs us → zP ys ws → zP (xs ++ ys) (us ++ ws)
  | _, _, _, _, .nil, s => s
  | _, _, _, _, .cons r t, s => .cons r (zP.append t s)
theorem zP.take : ∀ {xs : List V} {us : List Value} (n : Nat), zP xs us → zP (xs.take n) (us.take n)
  | _, _, 0, _ => .nil
  | _, _, _ + 1, .nil => .nil
  | _, _, n + 1, .cons r t => .cons r (zP.take n t)
theorem zP.drop : ∀ {xs : List V} {us : List Value} (n : Nat), zP xs us → zP (xs.drop n) (us.drop n)
  | _, _, 0, r => r
  | _, _, _ + 1, .nil => .nil
  | _, _, n + 1, .cons _ t => zP.drop n t
noncomputable def z28 : Option V → Option Value → Prop
  | some v, some u => RelV v u
  | none, none => True
  | _, _ => False
noncomputable def KV {κ : Type} : List (κ × V) → List (κ × Value) → Prop := Paired fun (p : κ × V) (q : κ × Value) => p.1 = q.1 ∧ RelV p.2 q.2
noncomputable def kV : Key → V
  | .inl i => .int i
  | .inr x => .str x
inductive HO where
  | lst (xs : List V)
  | tup (xs : List V)
  | dK (kvs : List (Key × V)) | dT (kvs : List (List Key × V))
  | set (S : Int → Bool) (n : Nat)
  | ins (C dx : Addr) (fs : List (Str × V))
  | own (x : Addr)
  | xd (fs : List (Str × V))
  | met (f x : Addr)
  | rng (lo hi : Int)
  | frz (o : Obj) (u : HO)
  | tbl (ps : Array Value)
  | ext (φ : Heap → Prop)
noncomputable abbrev Hp := Addr → Option HO
noncomputable def upd (H : Hp) (a : Addr) (o : HO) : Hp := fun b => if b = a then some o else H b
theorem zm {H : Hp} {a : Addr} {o : HO} : upd H a o a = some o := by unfold upd; rw [if_pos rfl]
theorem zt {H : Hp} {a b : Addr} {o : HO} (h : b ≠ a) : upd H a o b = H b := by unfold upd; rw [if_neg h]
theorem z0p {H : Hp} {a : Addr} {o u : HO} : upd (upd H a o) a u = upd H a u := by
  funext b; unfold upd; split <;> rfl
theorem z2f {H : Hp} {a b : Addr} {o u : HO} (h : H a = some o) (h' : H b = some u) (d : o ≠ u) : a ≠ b := by
  intro e; subst e; rw [h] at h'; exact d (Option.some.inj h')
theorem zr {H : Hp} {a b : Addr} {o : HO} (h : H a = some o) (h' : H b = none) : a ≠ b := by
  intro e; subst e; rw [h] at h'; cases h'
section
variable (P : Program) (w : World)
noncomputable def jy (H : Hp) (h : Heap) (a : Addr) : HO → Prop
  | .lst xs => xs.length ≤ sizeLine ∧ ∃ (its : List Value) (n : Nat), zP xs its ∧ h.get? a = some { cls := .type "list", data := .seq its.toArray n }
  | .tup xs => xs.length ≤ sizeLine ∧ ∃ its : List Value, zP xs its ∧ IsTup h a its.toArray
  | .dK kvs => kvs.length ≤ sizeLine ∧ (a == sysModules) = false ∧ ∃ vs, KV kvs vs ∧ h.DictOf (jh P w) a vs
  | .dT kvs => kvs.length ≤ sizeLine ∧ (a == sysModules) = false ∧ ∃ xs : List (List Key × Addr × Value),
      Paired (fun (p : List Key × V) (q : List Key × Addr × Value) => p.1 = q.1 ∧ H q.2.1 = some (.tup (p.1.map kV)) ∧ RelV p.2 q.2.2) kvs xs ∧
      ∃ o es ep, h.get? a = some o ∧ o.ExactDict ∧ o.data = .dict es ep ∧ es.toList = xs.map (entryOfKey (tupleKind (jh P w))) ∧ (xs.map (·.1)).Nodup
  | .set S n => h.SetOf (intKind P w) a S n
  | .ins C dx fs => H dx = some (.own a) ∧ fs.length ≤ 1000 ∧ dx ≠ a ∧ h.get? a = some (PySem.W.instObj C dx) ∧
      ∃ mA, h.Ns1 dx mA ∧ (∀ f, z28 (fs.lookup f) (mA f)) ∧ PySem.Within mA (fs.map (·.1))
  | .own _ => ∃ o, h.get? a = some o
  | .xd fs => ∃ mA, h.Ns1 a mA ∧ ∀ f, z28 (fs.lookup f) (mA f)
  | .rng lo hi => ∃ t u v, h.get? a = some { cls := .type "range", data := .fields #[.int lo t, .int hi u, .int 1 v] }
  | .frz o u => h.get? a = some o ∧ jy H h a u
  | .tbl ps => h.get? a = some { cls := .none, data := .fields ps }
  | .met f x => h.get? a = some (PySem.W.methodObj (.ref f) (.ref x))
  | .ext φ => φ h ∧ (∃ o, h.get? a = some o) ∧ ∀ h1 h2 : Heap, φ h1 → (∀ o, h1.get? a = some o → h2.get? a = some o) → φ h2
noncomputable def HOk (H : Hp) (h : Heap) : Prop := ∀ a o, H a = some o → jy P w H h a o
end
section
variable {P : Program} {w : World} {H H' : Hp} {h h' : Heap} {a : Addr} {o : HO}
theorem jy.lt (x : jy P w H h a o) : a < h.objs.size := by
  cases o with
  | lst xs => obtain ⟨_, _, _, _, e⟩ := x; exact Heap.lt_size e
  | tup xs => obtain ⟨_, _, _, p⟩ := x; exact p.lt
  | dK kvs => obtain ⟨_, _, _, _, o, _, _, e, _⟩ := x; exact Heap.lt_size e
  | dT kvs => obtain ⟨_, _, _, _, o, _, _, e, _⟩ := x; exact Heap.lt_size e
  | set S n => obtain ⟨o, _, _, _, e, _⟩ := x; exact Heap.lt_size e
  | ins C dx fs => obtain ⟨_, _, _, e, _⟩ := x; exact Heap.lt_size e
  | own y => obtain ⟨_, e⟩ := x; exact Heap.lt_size e
  | xd fs => obtain ⟨_, ⟨_, _, _, e, _⟩, _⟩ := x; exact Heap.lt_size e
  | rng lo hi => obtain ⟨_, _, _, e⟩ := x; exact Heap.lt_size e
  | frz ob u => obtain ⟨e, _⟩ := x; exact Heap.lt_size e
  | tbl ps => exact Heap.lt_size (show h.get? a = some _ from x)
  | met f y => exact Heap.lt_size (show h.get? a = some _ from x)
  | ext φ => obtain ⟨_, ⟨_, e⟩, _⟩ := x; exact Heap.lt_size e
theorem Paired.mapP {α β : Type} {F G : α → β → Prop} : ∀ {l₁ : List α} {l₂ : List β}, Paired F l₁ l₂ → (∀ a b, F a b → G a b) → Paired G l₁ l₂
  | _, _, .nil, _ => .nil
  | _, _, .cons r t, f => .cons (f _ _ r) (Paired.mapP t f)
theorem jy.stay (x : jy P w H h a o) (k : ∀ b u, (b = a ∨ H b = some (.own a)) → h.get? b = some u → h'.get? b = some u)
    (ho : ∀ b, H b = some (.own a) → H' b = some (.own a)) (ht : ∀ b xs, H b = some (.tup xs) → H' b = some (.tup xs)) : jy P w H' h' a o := by
  induction o with
  | lst xs => obtain ⟨z, its, n, r, e⟩ := x; exact ⟨z, its, n, r, k _ _ (.inl rfl) e⟩
  | tup xs => obtain ⟨z, its, r, ob, e, c⟩ := x; exact ⟨z, its, r, ob, k _ _ (.inl rfl) e, c⟩
  | dK kvs => obtain ⟨z, y, vs, r, ob, es, ep, e, c⟩ := x; exact ⟨z, y, vs, r, ob, es, ep, k _ _ (.inl rfl) e, c⟩
  | dT kvs =>
    obtain ⟨z, y, xs, r, ob, es, ep, e, c⟩ := x;exact ⟨z, y, xs, Paired.mapP r fun p q z => ⟨z.1, ht _ _ z.2.1, z.2.2⟩, ob, es, ep, k _ _ (.inl rfl) e, c⟩
  | set S n => obtain ⟨ob, es, ep, t, e, c⟩ := x; exact ⟨ob, es, ep, t, k _ _ (.inl rfl) e, c⟩
  | ins C dx fs =>
    obtain ⟨d, z, ne, e, mA, ⟨od, es, ep, e2, c⟩, r⟩ := x;exact ⟨ho _ d, z, ne, k _ _ (.inl rfl) e, mA, ⟨od, es, ep, k _ _ (.inr d) e2, c⟩, r⟩
  | own y => obtain ⟨ob, e⟩ := x; exact ⟨ob, k _ _ (.inl rfl) e⟩
  | xd fs => obtain ⟨mA, ⟨od, es, ep, e, c⟩, r⟩ := x; exact ⟨mA, ⟨od, es, ep, k _ _ (.inl rfl) e, c⟩, r⟩
  | rng lo hi => obtain ⟨t, u, v, e⟩ := x; exact ⟨t, u, v, k _ _ (.inl rfl) e⟩
  | frz ob u ih => obtain ⟨e, q⟩ := x; exact ⟨k _ _ (.inl rfl) e, ih q⟩
  | tbl ps =>
    have e : h.get? a = some { cls := .none, data := .fields ps } := x
    show h'.get? a = some { cls := .none, data := .fields ps }
    exact k a _ (.inl rfl) e
  | met f y =>
    have e : h.get? a = some (PySem.W.methodObj (.ref f) (.ref y)) := x
    show h'.get? a = some (PySem.W.methodObj (.ref f) (.ref y))
    exact k a _ (.inl rfl) e
  | ext φ => obtain ⟨p, ⟨o, e⟩, st⟩ := x; exact ⟨st _ _ p fun o q => k _ _ (.inl rfl) q, ⟨o, k _ _ (.inl rfl) e⟩, st⟩
theorem HOk.lt (x : HOk P w H h) (e : H a = some o) : a < h.objs.size := (x a o e).lt
theorem HOk.fresh (x : HOk P w H h) (e : h.objs.size ≤ a) : H a = none := by
  cases q : H a with
  | none => rfl
  | some u => exact absurd (Nat.lt_of_lt_of_le (x.lt q) e) (Nat.lt_irrefl _)
theorem HOk.kept (x : HOk P w H h) (k : ∀ b u, h.get? b = some u → h'.get? b = some u) : HOk P w H h' := fun a o e =>
  (x a o e).stay (fun b u _ q => k b u q) (fun _ q => q) fun _ _ q => q
theorem HOk.laid (x : HOk P w H h) (k : ∀ b u, h.get? b = some u → h'.get? b = some u) (hp : h.objs.size ≤ a) (new : jy P w (upd H a o) h' a o) : HOk P w (upd H a o) h' := fun b u e => by
  have hn := x.fresh hp;by_cases hb : b = a
  · subst hb; rw [zm] at e; cases e; exact new
  · rw [zt hb] at e;exact (x b u e).stay (fun c v _ q => k c v q) (fun c q => by rw [zt (zr q hn)]; exact q) fun c xs q => by rw [zt (zr q hn)]; exact q
end
noncomputable def Rd (H : Hp) (a : Addr) (u : HO) : Prop := H a = some u ∨ ∃ o, H a = some (.frz o u)
theorem Rd.ok {P : Program} {w : World} {H : Hp} {h : Heap} {a : Addr} {u : HO} (r : Rd H a u) (x : HOk P w H h) : jy P w H h a u := by
  rcases r with r | ⟨o, r⟩
  · exact x a u r
  · obtain ⟨_, q⟩ := x a _ r;exact q
noncomputable def Mut : Option HO → Prop
  | some (.lst _) => True
  | some (.dK _) => True
  | some (.dT _) => True
  | some (.set _ _) => True
  | some (.ins _ _ _) => True
  | some (.ext _) => True
  | _ => False
section
variable {P : Program} {w : World} {H : Hp} {h h' : Heap} {x e : Addr} {o' : HO}
theorem HOk.write (ok : HOk P w H h) (mu : Mut (H x)) (he : e = x ∨ H e = some (.own x)) (k : ∀ b u, b ≠ e → h.get? b = some u → h'.get? b = some u) (heo : ∃ u, h'.get? e = some u)
    (new : jy P w (upd H x o') h' x o') : HOk P w (upd H x o') h' := fun b u q => by
  have nown : ∀ c y, H c = some (.own y) → c ≠ x := fun c y r z => by subst z; rw [r] at mu; exact mu
  have ntup : ∀ c xs, H c = some (.tup xs) → c ≠ x := fun c xs r z => by subst z; rw [r] at mu; exact mu
  by_cases hb : b = x
  · subst hb; rw [zm] at q; cases q; exact new
  · rw [zt hb] at q;by_cases hbe : b = e
    · have q' : H b = some (.own x) := by
        rcases he with z | z
        · exact absurd (hbe.trans z) hb
        · rw [hbe]; exact z
      rw [q] at q'; cases q';obtain ⟨v, hv⟩ := heo;exact ⟨v, by rw [hbe]; exact hv⟩
    · refine (ok b u q).stay (fun c v hc r => k c v ?_ r) (fun c r => by rw [zt (nown c b r)]; exact r) fun c xs r => by rw [zt (ntup c xs r)]; exact r
      rcases hc with rfl | hc
      · exact hbe
      · rintro rfl;rcases he with z | z
        · exact nown c b hc z
        · rw [hc] at z; cases z; exact hb rfl
end
structure Un (fs ex : List Addr) (H H' : Hp) (h h' : Heap) : Prop where
  keep : ∀ b o, h.get? b = some o → H b = none → b ∉ fs → b ∉ ex → h'.get? b = some o
  slot : ∀ b o, h.get? b = some o → H b = none → b ∈ fs → b ∉ ex → ∃ sl, h'.get? b = some { o with slots := sl }
  free : ∀ b o, h.get? b = some o → H b = none → b ∉ ex → H' b = none
  there : ∀ b o, h.get? b = some o → b ∉ ex → ∃ o', h'.get? b = some o'
  tups : ∀ b xs, H b = some (.tup xs) → H' b = some (.tup xs)
  frzs : ∀ b o u, H b = some (.frz o u) → H' b = some (.frz o u)
  tbls : ∀ b ps, H b = some (.tbl ps) → ∃ more, H' b = some (.tbl (ps ++ more))
section
variable {fs fs' ex ex' : List Addr} {H H1 H2 : Hp} {h h1 h2 h' : Heap} {a x e : Addr} {o : HO}
theorem Un.any (u : Un fs ex H H1 h h1) {b : Addr} {ob : Obj} (q : h.get? b = some ob) (n : H b = none) (hx : b ∉ ex) : ∃ sl, h1.get? b = some { ob with slots := sl } := by
  by_cases hb : b ∈ fs
  · exact u.slot b ob q n hb hx
  · exact ⟨ob.slots, u.keep b ob q n hb hx⟩
theorem Un.kept (k : ∀ b u, h.get? b = some u → h'.get? b = some u) : Un fs ex H H h h' :=
  ⟨fun b ob q _ _ _ => k b ob q, fun b ob q _ _ _ => ⟨ob.slots, k b ob q⟩, fun _ _ _ n _ => n, fun b ob q _ => ⟨ob, k b ob q⟩, fun _ _ q => q, fun _ _ _ q => q, fun _ ps q => ⟨#[], by rw [q]; simp⟩⟩
theorem Un.refl : Un fs ex H H h h := Un.kept fun _ _ q => q
theorem Un.laid (k : ∀ b u, h.get? b = some u → h'.get? b = some u) (hp : h.objs.size ≤ a) (hn : H a = none) : Un fs ex H (upd H a o) h h' where
  keep := fun b u q _ _ _ => k b u q
  slot := fun b u q _ _ _ => ⟨u.slots, k b u q⟩
  free := fun b u q n _ => by rw [zt (Nat.ne_of_lt (Nat.lt_of_lt_of_le (Heap.lt_size q) hp))]; exact n
  there := fun b u q _ => ⟨u, k b u q⟩
  tups := fun b xs q => by rw [zt (zr q hn)]; exact q
  frzs := fun b u xs q => by rw [zt (zr q hn)]; exact q
  tbls := fun b ps q => ⟨#[], by rw [zt (zr q hn), q]; simp⟩
theorem Un.write (mu : Mut (H x)) (he : e = x ∨ H e = some (.own x)) (k : ∀ b u, b ≠ e → h.get? b = some u → h'.get? b = some u) (heo : ∃ u, h'.get? e = some u) : Un fs ex H (upd H x o) h h' := by
  have hx : ∀ b, H b = none → b ≠ x := fun b n z => by subst z; rw [n] at mu; exact mu
  have hb : ∀ b, H b = none → b ≠ e := fun b n z => by
    subst z;rcases he with r | r
    · exact hx b n r
    · rw [n] at r; cases r
  have hm : ∀ b u, H b = some u → ¬ Mut (some u) → b ≠ x := fun b u q nm z => by subst z; rw [q] at mu; exact nm mu
  refine ⟨fun b u q n _ _ => k b u (hb b n) q, fun b u q n _ _ => ⟨u.slots, k b u (hb b n) q⟩, fun b u q n _ => by rw [zt (hx b n)]; exact n, fun b u q _ => ?_,
    fun b xs q => by rw [zt (hm b _ q fun z => z)]; exact q, fun b u xs q => by rw [zt (hm b _ q fun z => z)]; exact q, fun b ps q => ⟨#[], by rw [zt (hm b _ q fun z => z), q]; simp⟩⟩
  by_cases hbe : b = e
  · subst hbe; exact heo
  · exact ⟨u, k b u hbe q⟩
end
noncomputable def trk (h : Heap) (H : Hp) : List Addr := (List.range h.objs.size).filter fun a => (H a).isSome
noncomputable def z3u (h : Heap) (H : Hp) : Heap := PySem.W.hideAll h (trk h H)
theorem z7p (h : Heap) (H : Hp) : (z3u h H).objs.size = h.objs.size := PySem.W.hideAll_size _ _
theorem z8L {h : Heap} {H : Hp} {b : Addr} {o : Obj} (e : h.get? b = some o) (n : H b = none) : (z3u h H).get? b = some o :=
  PySem.W.hideAll_get _ e fun hm => by
    have q : (H b).isSome = true := (List.mem_filter.mp hm).2;rw [n] at q; simp at q
theorem z9f {h : Heap} {H : Hp} {b : Addr} {o : Obj} (e : (z3u h H).get? b = some o) : h.get? b = some o ∧ H b = none := by
  have e' : h.get? b = some o := PySem.W.of_hideAll (trk h H) e;refine ⟨e', ?_⟩;cases q : H b with
  | none => rfl
  | some x =>
    have hm : b ∈ trk h H := List.mem_filter.mpr ⟨List.mem_range.mpr (Heap.lt_size e'), by simp [q]⟩;have z : (z3u h H).get? b = none := PySem.W.hideAll_none (trk h H) hm;rw [z] at e; cases e
end L2
namespace L2
open PySem PySem.Spec PyProof.Rows
structure Mod (K : PySem.W.Frag) (mg : Str → Option Value) (base : Heap) : Prop where
  kin : K.In base
  glob : base.Ns mainGlobals mg
  blt : ∃ mb, base.Ns builtinsNs mb ∧ ∀ x : Str, x ≠ "__name__" → mb x = bootBuiltins x
  nolimit : base.NoLimit
structure Cx where
  prog : Program
  w : World
  K : PySem.W.Frag
  mg : Str → Option Value
  base : Heap
  A : Around
  N : List Str
  s₀ : Shared
  H₀ : Hp
  env : Env
  outer : List Env
  stack : List Env
  ex : List Addr
  fn : Str → Bool
  calm : Bool
  pn : List (Addr × Obj)
  xe : Value → Shared → Prop
noncomputable def frs (l : List Env) : List Addr := l.filterMap (·.frame)
noncomputable abbrev Cx.fs (X : Cx) : List Addr := frs X.outer
noncomputable def Vis (sc : Scope) (x : Str) : Prop := sc.names.lookup x = some .local ∨ sc.names.lookup x = some .cell ∨ sc.names.lookup x = some .free
noncomputable def Loc (sc : Scope) (x : Str) : Prop := sc.names.lookup x = some .local ∨ sc.names.lookup x = some .cell
noncomputable def Look (env : Env) (h : Heap) (m : Str → Option Value) (x : Str) (u : Value) : Prop :=
  (env.kindOf x = some .local ∧ m x = some u) ∨ ((env.kindOf x = some .cell ∨ env.kindOf x = some .free) ∧ ∃ c, env.cells.lookup x = some c ∧ h.IsCell c (some u))
structure Cx.Ok (X : Cx) : Prop where
  mod : Mod X.K X.mg X.base
  kind : X.env.scope.kind = .function
  glob : X.env.globals = mainGlobals
  blt : X.env.builtins = builtinsNs
  above : X.s₀.heap.objs.size ≤ X.env.locals
  inj : ∀ x y c, X.env.cells.lookup x = some c → X.env.cells.lookup y = some c → x = y
  has : ∀ x, (X.env.kindOf x = some .cell ∨ X.env.kindOf x = some .free) → ∃ c, X.env.cells.lookup x = some c
  cab : ∀ x c, X.fn x = true → X.env.cells.lookup x = some c → X.s₀.heap.objs.size ≤ c
  hd : X.calm = true → X.A.handled = none
  frames : X.A.frames = some X.stack
  stk : X.stack = X.outer ∨ (X.stack = X.env :: X.outer ∧ X.env.frame = some X.env.locals)
  exf : ∀ b ∈ X.ex, b ≠ X.env.locals ∧ ∀ x c, X.env.cells.lookup x = some c → c ≠ b
  bs : ∀ b o, X.base.get? b = some o → X.s₀.heap.get? b = some o ∧ X.H₀ b = none
  bsz : X.base.objs.size ≤ X.s₀.heap.objs.size
  noex : ∀ b o, X.base.get? b = some o → b ∉ X.ex
  exfs : ∀ b ∈ X.ex, b ∉ X.fs
  funs : X.s₀.heap.FunFrames X.base X.outer
  frf : ∀ b ∈ X.fs, X.H₀ b = none
structure Inv (X : Cx) (pins : List (Addr × Obj)) (σ : List (Option V)) (H : Hp) (s : Shared) : Prop where
  ok : X.Ok
  os : s.os = X.s₀.os
  bare : AllBare s.gens
  base : Un X.fs X.ex X.H₀ H X.s₀.heap s.heap
  loc : ∃ m, s.heap.Ns X.env.locals m ∧ ∀ (i : Nat) (x : Str) (v : V), X.N[i]? = some x → σ[i]? = some (some v) → Vis X.env.scope x → ∃ u, RelV v u ∧ Look X.env s.heap m x u
  cell : ∀ x c, X.env.cells.lookup x = some c → ∃ v, s.heap.IsCell c v
  free : H X.env.locals = none
  freeC : ∀ x c, X.env.cells.lookup x = some c → H c = none
  pin : ∀ p ∈ X.pn ++ pins, s.heap.get? p.1 = some p.2 ∧ H p.1 = none ∧ p.1 ≠ X.env.locals ∧ p.1 ∉ X.fs ∧ ∀ v, p.2.data ≠ .cell v
  hok : HOk X.prog X.w H s.heap
  len : σ.length = X.N.length
section
variable {X : Cx} {pins : List (Addr × Obj)} {σ : List (Option V)} {H H' : Hp} {s : Shared} {h' : Heap}
theorem Cx.Ok.nofr (ok : X.Ok) {b : Addr} {o : Obj} (e : X.base.get? b = some o) : b ∉ X.fs := fun hb => by
  have := (ok.funs.mem hb).1;rw [e] at this; cases this
theorem Inv.bs (I : Inv X pins σ H s) : ∀ b o, X.base.get? b = some o → s.heap.get? b = some o ∧ H b = none := fun b o e =>
  ⟨I.base.keep b o (I.ok.bs b o e).1 (I.ok.bs b o e).2 (I.ok.nofr e) (I.ok.noex b o e), I.base.free b o (I.ok.bs b o e).1 (I.ok.bs b o e).2 (I.ok.noex b o e)⟩
theorem Inv.bk (I : Inv X pins σ H s) : ∀ b o, X.base.get? b = some o → s.heap.get? b = some o := fun b o e => (I.bs b o e).1
theorem Inv.mod (I : Inv X pins σ H s) : Mod X.K X.mg X.base := I.ok.mod
theorem Inv.kIn (I : Inv X pins σ H s) : X.K.In s.heap := I.ok.mod.kin.keeps I.bk
theorem Inv.nolimit (I : Inv X pins σ H s) : s.heap.NoLimit := I.ok.mod.nolimit.keeps I.bk
theorem Inv.lt (I : Inv X pins σ H s) : X.env.locals < s.heap.objs.size := let ⟨_, hn, _⟩ := I.loc; hn.lt
theorem Inv.sz (I : Inv X pins σ H s) : X.s₀.heap.objs.size ≤ s.heap.objs.size := Nat.le_trans I.ok.above (Nat.le_of_lt I.lt)
theorem Inv.nofs (I : Inv X pins σ H s) {a : Addr} (h : s.heap.objs.size ≤ a) : a ∉ X.fs := fun hb => by
  obtain ⟨_, o, ho, _⟩ := I.ok.funs.mem hb;exact absurd (Nat.lt_of_lt_of_le (Heap.lt_size ho) (Nat.le_trans I.sz h)) (Nat.lt_irrefl _)
theorem Inv.cne (I : Inv X pins σ H s) : ∀ x c, X.env.cells.lookup x = some c → c ≠ X.env.locals := fun x c e z => by
  obtain ⟨v, o, ho, hd⟩ := I.cell x c e;obtain ⟨m, ⟨o', es, ep, ho', hd', _⟩, _⟩ := I.loc;rw [z, ho'] at ho; cases ho; rw [hd'] at hd; cases hd
theorem Inv.funs (I : Inv X pins σ H s) : s.heap.FunFrames X.base X.outer := by
  have all : ∀ (l : List Env), (∀ b ∈ frs l, b ∈ X.fs) → X.s₀.heap.FunFrames X.base l → s.heap.FunFrames X.base l := by
    intro l
    induction l with
    | nil => intro _ _; trivial
    | cons env r ih =>
      intro hs hl;obtain ⟨hk, ⟨L, o, hf, hn, ho, hd⟩, hr⟩ := hl;have hL : L ∈ X.fs := hs L (by unfold frs; rw [List.filterMap_cons, hf]; exact List.mem_cons_self);obtain ⟨sl, e⟩ := I.base.slot L o ho (I.ok.frf L hL) hL fun z => I.ok.exfs L z hL
      exact ⟨hk, ⟨L, _, hf, hn, e, hd⟩, ih (fun b hb => hs b (by unfold frs; rw [List.filterMap_cons, hf]; exact List.mem_cons_of_mem _ hb)) hr⟩
  exact all X.outer (fun _ hb => hb) I.ok.funs
theorem Inv.stack (I : Inv X pins σ H s) : s.heap.FunFrames X.base X.stack := by
  rcases I.ok.stk with e | ⟨e, hf⟩
  · rw [e]; exact I.funs
  · rw [e];obtain ⟨m, hn, _⟩ := I.loc;refine .cons (by rw [I.ok.kind]; decide) hf hn ?_ I.funs;exact Heap.get?_none_of_le (Nat.le_trans I.ok.bsz I.ok.above)
theorem Inv.stkSub (I : Inv X pins σ H s) : ∀ b ∈ frs X.stack, b ∈ X.env.locals :: X.fs := fun b hb => by
  rcases I.ok.stk with e | ⟨e, hf⟩
  · rw [e] at hb; exact List.mem_cons_of_mem _ hb
  · rw [e] at hb;unfold frs at hb;rw [List.filterMap_cons, hf] at hb;exact hb
theorem Inv.stkFree (I : Inv X pins σ H s) : ∀ b ∈ frs X.stack, H b = none := fun b hb => by
  rcases List.mem_cons.mp (I.stkSub b hb) with e | hb
  · rw [e]; exact I.free
  · obtain ⟨_, o, ho, _⟩ := I.ok.funs.mem hb;exact I.base.free b o ho (I.ok.frf b hb) fun z => I.ok.exfs b z hb
theorem Inv.step {g' : Array GenState} {t' : Nat} {d' : Drawn} {ch : List Addr} (I : Inv X pins σ H s)
    (hch : ∀ b ∈ ch, (b ∈ X.ex ∨ X.s₀.heap.objs.size ≤ b) ∧ b ≠ X.env.locals ∧ (∀ x c, X.env.cells.lookup x = some c → c ≠ b) ∧ ∀ p ∈ X.pn ++ pins, p.1 ≠ b)
    (keep : ∀ b o, b ≠ X.env.locals → b ∉ X.fs → b ∉ ch → s.heap.get? b = some o → H b = none → h'.get? b = some o)
    (slot : ∀ b o, b ≠ X.env.locals → b ∈ X.fs → b ∉ ch → s.heap.get? b = some o → H b = none → ∃ sl, h'.get? b = some { o with slots := sl }) (free : ∀ b o, b ∉ ch → s.heap.get? b = some o → H b = none → H' b = none)
    (there : ∀ b o, b ∉ ch → s.heap.get? b = some o → ∃ o', h'.get? b = some o')
    (tups : ∀ b xs, H b = some (.tup xs) → H' b = some (.tup xs)) (frzs : ∀ b o u, H b = some (.frz o u) → H' b = some (.frz o u)) (tbls : ∀ b ps, H b = some (.tbl ps) → ∃ more, H' b = some (.tbl (ps ++ more)))
    (ns : ∀ m, s.heap.Ns X.env.locals m → h'.Ns X.env.locals m) (hok : HOk X.prog X.w H' h') (hg : AllBare g') :
    Inv X pins σ H' { s with heap := h', gens := g', drawn := d', toks := t' } := by
  have neL : ∀ b o, X.s₀.heap.get? b = some o → b ≠ X.env.locals := fun b o e => Nat.ne_of_lt (Nat.lt_of_lt_of_le (Heap.lt_size e) I.ok.above)
  have neC : ∀ b o, X.s₀.heap.get? b = some o → b ∉ X.ex → b ∉ ch := fun b o e hx hb => by
    rcases (hch b hb).1 with z | z
    · exact hx z
    · exact absurd (Nat.lt_of_lt_of_le (Heap.lt_size e) z) (Nat.lt_irrefl _)
  have cellK : ∀ x c, X.env.cells.lookup x = some c → ∀ v, s.heap.IsCell c v → h'.IsCell c v := fun x c e v ⟨o, ho, hd⟩ => by
    have nch : c ∉ ch := fun z => (hch c z).2.2.1 x c e rfl
    by_cases hc : c ∈ X.fs
    · obtain ⟨sl, q⟩ := slot c o (I.cne x c e) hc nch ho (I.freeC x c e);exact ⟨_, q, hd⟩
    · exact ⟨o, keep c o (I.cne x c e) hc nch ho (I.freeC x c e), hd⟩
  refine ⟨I.ok, I.os, hg, ⟨fun b o e n hb hx => ?_, fun b o e n hb hx => ?_, fun b o e n hx => ?_, fun b o e hx => ?_, fun b xs e => tups b xs (I.base.tups b xs e), fun b o xs e => frzs b o xs (I.base.frzs b o xs e), fun b ps e => ?_⟩, ?_, fun x c e => ?_, ?_, fun x c e => ?_, fun p hp => ?_, hok, I.len⟩
  · exact keep b o (neL b o e) hb (neC b o e hx) (I.base.keep b o e n hb hx) (I.base.free b o e n hx)
  · obtain ⟨sl, e1⟩ := I.base.slot b o e n hb hx;obtain ⟨sl', e2⟩ := slot b _ (neL b o e) hb (neC b o e hx) e1 (I.base.free b o e n hx);exact ⟨sl', e2⟩
  · obtain ⟨o', e1⟩ := I.base.there b o e hx;exact free b o' (neC b o e hx) e1 (I.base.free b o e n hx)
  · obtain ⟨o', e1⟩ := I.base.there b o e hx;exact there b o' (neC b o e hx) e1
  · obtain ⟨m1, e1⟩ := I.base.tbls b ps e;obtain ⟨m2, e2⟩ := tbls b _ e1;exact ⟨m1 ++ m2, by rw [e2, Array.append_assoc]⟩
  · obtain ⟨m, hn, hl⟩ := I.loc;refine ⟨m, ns m hn, fun i x v e1 e2 e3 => ?_⟩;obtain ⟨u, r, l⟩ := hl i x v e1 e2 e3;refine ⟨u, r, ?_⟩;rcases l with l | ⟨k, c, e, z⟩
    · exact .inl l
    · exact .inr ⟨k, c, e, cellK x c e _ z⟩
  · obtain ⟨v, z⟩ := I.cell x c e;exact ⟨v, cellK x c e v z⟩
  · obtain ⟨m, ⟨o, _, _, ho, _⟩, _⟩ := I.loc;exact free _ o (fun z => (hch _ z).2.1 rfl) ho I.free
  · obtain ⟨v, o, ho, hd⟩ := I.cell x c e;exact free c o (fun z => (hch c z).2.2.1 x c e rfl) ho (I.freeC x c e)
  · obtain ⟨e, n, ne, nf, d⟩ := I.pin p hp;have nch : p.1 ∉ ch := fun z => (hch p.1 z).2.2.2 p hp rfl
    exact ⟨keep p.1 p.2 ne nf nch e n, free p.1 p.2 nch e n, ne, nf, d⟩
theorem Inv.un {t' : Nat} (I : Inv X pins σ H s) (u : Un X.fs [] H H' s.heap h') (hok : HOk X.prog X.w H' h') : Inv X pins σ H' { s with heap := h', toks := t' } := by
  obtain ⟨m, ⟨o, es, ep, ho, r⟩, _⟩ := id I.loc;obtain ⟨sl, hL⟩ := u.any ho I.free (by simp);exact I.step (g' := s.gens) (d' := s.drawn) (ch := []) (fun _ z => nomatch z) (fun b o _ hb _ e n => u.keep b o e n hb (by simp)) (fun b o _ hb _ e n => u.slot b o e n hb (by simp)) (fun b o _ e n => u.free b o e n (by simp)) (fun b o _ e => u.there b o e (by simp)) u.tups u.frzs u.tbls (fun m' hm => by
    obtain ⟨o', es', ep', ho', r'⟩ := hm;rw [ho] at ho'; cases ho';exact ⟨_, es', ep', hL, r'⟩) hok I.bare
theorem Inv.call {g' : Array GenState} {t' : Nat} {d' : Drawn} {ch : List Addr} (I : Inv X pins σ H s) (u : Un (frs X.stack) ch H H' s.heap h') (hok : HOk X.prog X.w H' h') (hg : AllBare g')
    (hch : ∀ b ∈ ch, (b ∈ X.ex ∨ X.s₀.heap.objs.size ≤ b) ∧ b ≠ X.env.locals ∧ (∀ x c, X.env.cells.lookup x = some c → c ≠ b) ∧ ∀ p ∈ X.pn ++ pins, p.1 ≠ b) :
    Inv X pins σ H' { s with heap := h', gens := g', drawn := d', toks := t' } := by
  obtain ⟨m, ⟨o, es, ep, ho, r⟩, _⟩ := id I.loc;obtain ⟨sl, hL⟩ := u.any ho I.free fun z => (hch _ z).2.1 rfl
  exact I.step (ch := ch) hch (fun b o hL hb hc e n => u.keep b o e n (fun z => (List.mem_cons.mp (I.stkSub b z)).elim hL hb) hc) (fun b o _ _ hc e n => u.any e n hc) (fun b o hc e n => u.free b o e n hc) (fun b o hc e => u.there b o e hc) u.tups u.frzs u.tbls (fun m' hm => by
    obtain ⟨o', es', ep', ho', r'⟩ := hm;rw [ho] at ho'; cases ho';exact ⟨_, es', ep', hL, r'⟩) hok hg
theorem Inv.turned {t' : Nat} {it : Addr} (I : Inv X pins σ H s) (k : ∀ b o, b ≠ it → s.heap.get? b = some o → h'.get? b = some o) (hn : H it = none) (hL : it ≠ X.env.locals)
    (h1 : it ∈ X.ex ∨ X.s₀.heap.objs.size ≤ it) (h2 : ∀ x c, X.env.cells.lookup x = some c → c ≠ it) (h3 : ∀ p ∈ X.pn ++ pins, p.1 ≠ it) : Inv X pins σ H { s with heap := h', toks := t' } := by
  have nit : ∀ b u, H b = some u → b ≠ it := fun b u e z => by rw [z, hn] at e; cases e
  refine I.step (g' := s.gens) (d' := s.drawn) (ch := [it]) (fun b hb => ?_) (fun b o _ _ hc e _ => k b o (fun z => hc (by simp [z])) e) (fun b o _ _ hc e _ => ⟨o.slots, k b o (fun z => hc (by simp [z])) e⟩) (fun _ _ _ _ n => n)
    (fun b o hc e => ⟨o, k b o (fun z => hc (by simp [z])) e⟩) (fun _ _ e => e) (fun _ _ _ e => e) (fun b ps e => ⟨#[], by rw [e]; simp⟩) (fun m hm => ?_) (fun b u e => ?_) I.bare
  · have e : b = it := by simpa using hb
    subst e;exact ⟨h1, hL, h2, h3⟩
  · obtain ⟨o, es, ep, ho, r⟩ := hm;exact ⟨o, es, ep, k _ o (Ne.symm hL) ho, r⟩
  · refine (I.hok b u e).stay (fun c v hc q => k c v ?_ q) (fun _ q => q) fun _ _ q => q
    rcases hc with z | z
    · rw [z]; exact nit b u e
    · exact nit c _ z
theorem Inv.tok (I : Inv X pins σ H s) (t : Nat) : Inv X pins σ H { s with toks := t } := I.un (h' := s.heap) (t' := t) Un.refl I.hok
theorem Inv.kept {t' : Nat} (I : Inv X pins σ H s) (k : ∀ b u, s.heap.get? b = some u → h'.get? b = some u) : Inv X pins σ H { s with heap := h', toks := t' } := I.un (Un.kept k) (I.hok.kept k)
theorem Inv.laid {a : Addr} {o : HO} {t' : Nat} (I : Inv X pins σ H s) (k : ∀ b u, s.heap.get? b = some u → h'.get? b = some u) (hp : s.heap.objs.size ≤ a) (new : jy X.prog X.w (upd H a o) h' a o) :
    Inv X pins σ (upd H a o) { s with heap := h', toks := t' } := I.un (Un.laid k hp (I.hok.fresh hp)) (I.hok.laid k hp new)
theorem Inv.write {x e : Addr} {o : HO} {t' : Nat} (I : Inv X pins σ H s) (mu : Mut (H x)) (he : e = x ∨ H e = some (.own x)) (k : ∀ b u, b ≠ e → s.heap.get? b = some u → h'.get? b = some u) (heo : ∃ u, h'.get? e = some u)
    (new : jy X.prog X.w (upd H x o) h' x o) : Inv X pins σ (upd H x o) { s with heap := h', toks := t' } := I.un (Un.write mu he k heo) (I.hok.write mu he k heo new)
theorem Inv.pins_of {pins' : List (Addr × Obj)} (I : Inv X pins σ H s) (h : ∀ p ∈ pins', s.heap.get? p.1 = some p.2 ∧ H p.1 = none ∧ p.1 ≠ X.env.locals ∧ p.1 ∉ X.fs ∧ ∀ v, p.2.data ≠ .cell v) : Inv X pins' σ H s :=
  ⟨I.ok, I.os, I.bare, I.base, I.loc, I.cell, I.free, I.freeC, fun p hp => (List.mem_append.mp hp).elim (fun z => I.pin p (List.mem_append_left _ z)) (h p), I.hok, I.len⟩
theorem z5v {N : List Str} (hN : N.Nodup) {i j : Nat} {x : Str} (a : N[i]? = some x) (b : N[j]? = some x) : i = j := by
  obtain ⟨h1, e1⟩ := List.getElem?_eq_some_iff.mp a;obtain ⟨h2, e2⟩ := List.getElem?_eq_some_iff.mp b;exact (List.getElem_inj hN).mp (e1.trans e2.symm)
theorem z3K {M : Model} {A : Around} {E : Value → Shared → Prop} {i : Nat} {x : Str} {v : V} {u : Value} {Q : Unit → Shared → Prop} (I : Inv X pins σ H s) (hN : X.N.Nodup) (hi : X.N[i]? = some x) (hx : Loc X.env.scope x) (r : RelV v u)
    (h : ∀ s', Inv X pins (σ.set i (some v)) H s' → (∃ a, Heap.SameBut a s.heap s'.heap ∧ (a = X.env.locals ∨ X.env.cells.lookup x = some a)) → Q () s') (hf : X.fn x = true ∨ X.env.scope.names.lookup x = some .local := by first | exact .inl rfl | exact .inr rfl | assumption) : wpAny M A (storeName X.env x u) Q E s := by
  obtain ⟨m, hn, hl⟩ := id I.loc;have hcls : (X.env.scope.kind == .class || (X.env.scope.kind == .module && X.env.locals != X.env.globals)) = false := by rw [I.ok.kind]; rfl
  have hiσ : i < σ.length := by rw [I.len]; exact (List.getElem?_eq_some_iff.mp hi).1
  have cne := I.cne;have tracked : ∀ {a : Addr} {h' : Heap}, (∃ o, s.heap.get? a = some o ∧ H a = none) → Heap.SameBut a s.heap h' → HOk X.prog X.w H h' := fun {a h'} ha hs b ob e => by
    obtain ⟨_, _, hfree⟩ := ha;refine (I.hok b ob e).stay (fun c w' hc q => (hs.2 c ?_).trans q) (fun _ q => q) fun _ _ q => q
    rintro rfl;rcases hc with rfl | hc
    · rw [hfree] at e; cases e
    · rw [hfree] at hc; cases hc
  rcases hx with hk | hk
  · refine wpAny_storeName_local hk hn (fun h' hn' hs => ?_) hcls;obtain ⟨oL, _, _, hoL, _⟩ := id hn;refine h _ ⟨I.ok, I.os, I.bare, ⟨fun b o e n hb hx => ?_, fun b o e n hb hx => ?_, I.base.free, fun b o e hx => ?_, I.base.tups, I.base.frzs, I.base.tbls⟩, ⟨_, hn', fun j y v' e1 e2 e3 => ?_⟩, fun y c e => ?_, I.free, I.freeC, fun p hp => ?_, tracked ⟨oL, hoL, I.free⟩ hs, by simpa using I.len⟩ ⟨_, hs, .inl rfl⟩
    · exact (hs.2 b (Nat.ne_of_lt (Nat.lt_of_lt_of_le (Heap.lt_size e) I.ok.above))).trans (I.base.keep b o e n hb hx)
    · obtain ⟨sl, e1⟩ := I.base.slot b o e n hb hx;exact ⟨sl, (hs.2 b (Nat.ne_of_lt (Nat.lt_of_lt_of_le (Heap.lt_size e) I.ok.above))).trans e1⟩
    · obtain ⟨o', e1⟩ := I.base.there b o e hx;exact ⟨o', (hs.2 b (Nat.ne_of_lt (Nat.lt_of_lt_of_le (Heap.lt_size e) I.ok.above))).trans e1⟩
    · by_cases hj : j = i
      · subst hj;rw [hi] at e1; cases e1;rw [List.getElem?_set_self hiσ] at e2;cases e2;exact ⟨u, r, .inl ⟨hk, by simp⟩⟩
      · rw [List.getElem?_set_ne (Ne.symm hj)] at e2;obtain ⟨u', r', q⟩ := hl j y v' e1 e2 e3;refine ⟨u', r', ?_⟩;rcases q with ⟨k, e⟩ | ⟨k, c, e, z⟩
        · refine .inl ⟨k, ?_⟩;have : y ≠ x := fun e => hj (z5v hN e1 (e ▸ hi))
          simp [this, e]
        · exact .inr ⟨k, c, e, z.sameBut hs (cne y c e)⟩
    · obtain ⟨w', z⟩ := I.cell y c e;exact ⟨w', z.sameBut hs (cne y c e)⟩
    · obtain ⟨e, n, ne, nf, d⟩ := I.pin p hp;exact ⟨(hs.2 p.1 ne).trans e, n, ne, nf, d⟩
  · have hfn : X.fn x = true := by
      rcases hf with z | z
      · exact z
      · rw [z] at hk; cases hk
    obtain ⟨c, hc⟩ := I.ok.has x (.inl hk);obtain ⟨w', z⟩ := I.cell x c hc;refine wpAny_storeName_cell I.ok.kind hk hc z (fun h' hc' hs => ?_);obtain ⟨oc, hoc, hocd⟩ := id z;refine h { s with heap := h' } ⟨I.ok, I.os, I.bare, ⟨fun b o e n hb hx => ?_, fun b o e n hb hx => ?_, I.base.free, fun b o e hx => ?_, I.base.tups, I.base.frzs, I.base.tbls⟩, ⟨m, hn.sameBut hs (Ne.symm (cne x c hc)), fun j y v' e1 e2 e3 => ?_⟩, fun y c' e => ?_, I.free, I.freeC, fun p hp => ?_, tracked ⟨oc, hoc, I.freeC x c hc⟩ hs, by simpa using I.len⟩ ⟨c, hs, .inr hc⟩
    · exact (hs.2 b (Nat.ne_of_lt (Nat.lt_of_lt_of_le (Heap.lt_size e) (I.ok.cab x c hfn hc)))).trans (I.base.keep b o e n hb hx)
    · obtain ⟨sl, e1⟩ := I.base.slot b o e n hb hx;exact ⟨sl, (hs.2 b (Nat.ne_of_lt (Nat.lt_of_lt_of_le (Heap.lt_size e) (I.ok.cab x c hfn hc)))).trans e1⟩
    · obtain ⟨o', e1⟩ := I.base.there b o e hx;exact ⟨o', (hs.2 b (Nat.ne_of_lt (Nat.lt_of_lt_of_le (Heap.lt_size e) (I.ok.cab x c hfn hc)))).trans e1⟩
    · by_cases hj : j = i
      · subst hj;rw [hi] at e1; cases e1;rw [List.getElem?_set_self hiσ] at e2;cases e2;exact ⟨u, r, .inr ⟨.inl hk, c, hc, hc'⟩⟩
      · rw [List.getElem?_set_ne (Ne.symm hj)] at e2;obtain ⟨u', r', q⟩ := hl j y v' e1 e2 e3;refine ⟨u', r', ?_⟩;rcases q with q | ⟨k, c', e, z'⟩
        · exact .inl q
        · refine .inr ⟨k, c', e, z'.sameBut hs ?_⟩;rintro rfl;exact hj (z5v hN e1 (I.ok.inj _ _ _ e hc ▸ hi))
    · by_cases hcc : c' = c
      · subst hcc; exact ⟨_, hc'⟩
      · obtain ⟨w2, z2⟩ := I.cell y c' e;exact ⟨w2, z2.sameBut hs hcc⟩
    · obtain ⟨e, n, ne, nf, d⟩ := I.pin p hp;refine ⟨(hs.2 p.1 ?_).trans e, n, ne, nf, d⟩;intro q;rw [q, hoc] at e;have q' : oc = p.2 := Option.some.inj e;exact d w' (by rw [← q']; exact hocd)
theorem z2I {M : Model} {A : Around} {E : Value → Shared → Prop} {i : Nat} {x : Str} {v : V} {u : Value} {Q : Unit → Shared → Prop} (I : Inv X pins σ H s) (hN : X.N.Nodup) (hi : X.N[i]? = some x) (hx : Loc X.env.scope x) (r : RelV v u)
    (h : ∀ s', Inv X pins (σ.set i (some v)) H s' → Q () s') (hf : X.fn x = true ∨ X.env.scope.names.lookup x = some .local := by first | exact .inl rfl | exact .inr rfl | assumption) : wpAny M A (storeName X.env x u) Q E s :=
  z3K I hN hi hx r (fun s' I' _ => h s' I') hf
theorem Inv.call' {s' : Shared} {ch : List Addr} (I : Inv X pins σ H s) (ho : s'.os = s.os) (u : Un (frs X.stack) ch H H' s.heap s'.heap) (hok : HOk X.prog X.w H' s'.heap) (hg : AllBare s'.gens)
    (hch : ∀ b ∈ ch, (b ∈ X.ex ∨ X.s₀.heap.objs.size ≤ b) ∧ b ≠ X.env.locals ∧ (∀ x c, X.env.cells.lookup x = some c → c ≠ b) ∧ ∀ p ∈ X.pn ++ pins, p.1 ≠ b) : Inv X pins σ H' s' := by
  obtain ⟨h', g', d', t', o'⟩ := s';have e : o' = s.os := ho;subst e;exact I.call (g' := g') (t' := t') (d' := d') u hok hg hch
end
noncomputable abbrev XK := Value → Option Addr → Hp → Prop
noncomputable abbrev St := List (Option V)
noncomputable abbrev VK := V → Hp → Prop
noncomputable abbrev TE := St → Hp → VK → Prop
noncomputable abbrev TT := St → Hp → (Bool → Hp → Prop) → Prop
noncomputable abbrev TA := St → Hp → (List V → Hp → Prop) → Prop
structure Ends where
  nx : St → Hp → Prop
  rt : VK
  bk : St → Hp → Prop := fun _ _ => False
  ct : St → Hp → Prop := fun _ _ => False
noncomputable abbrev TS := Ends → St → Hp → Prop
noncomputable def EP (X : Cx) (pins : List (Addr × Obj)) (σ : St) (Q : VK) (u : Value) (s' : Shared) : Prop := ∃ v H', Inv X pins σ H' s' ∧ RelV v u ∧ Q v H'
noncomputable def TP (X : Cx) (pins : List (Addr × Obj)) (σ : St) (Q : Bool → Hp → Prop) (b : Bool) (s' : Shared) : Prop := ∃ H', Inv X pins σ H' s' ∧ Q b H'
noncomputable def AP (X : Cx) (pins : List (Addr × Obj)) (σ : St) (Q : List V → Hp → Prop) (us : List Value) (s' : Shared) : Prop := ∃ vs H', Inv X pins σ H' s' ∧ zP vs us ∧ Q vs H'
noncomputable def SP (X : Cx) (pins : List (Addr × Obj)) (D : Ends) (f : Flow) (s' : Shared) : Prop :=
  match f with
  | .next => ∃ σ' H', Inv X pins σ' H' s' ∧ D.nx σ' H'
  | .brk => ∃ σ' H', Inv X pins σ' H' s' ∧ D.bk σ' H'
  | .cont => ∃ σ' H', Inv X pins σ' H' s' ∧ D.ct σ' H'
  | .ret u => ∃ v σ' H', Inv X pins σ' H' s' ∧ RelV v u ∧ D.rt v H'
noncomputable def PE (X : Cx) (e : Expr) (t : TE) : Prop :=
  ∀ (pins : List (Addr × Obj)) (s : Shared) (σ : St) (H : Hp) (Q : VK), Inv X pins σ H s → t σ H Q → wpAny (model X.prog X.w) X.A (eval e X.env) (EP X pins σ Q) X.xe s
noncomputable def PT (X : Cx) (e : Expr) (t : TT) : Prop :=
  ∀ (pins : List (Addr × Obj)) (s : Shared) (σ : St) (H : Hp) (Q : Bool → Hp → Prop), Inv X pins σ H s → t σ H Q → wpAny (model X.prog X.w) X.A (isTrue e X.env (eval e X.env)) (TP X pins σ Q) X.xe s
noncomputable def PW (X : Cx) (e : Expr) (t : TT) : Prop :=
  ∀ (whole : Sem Value) (pins : List (Addr × Obj)) (s : Shared) (σ : St) (H : Hp) (Q : Bool → Hp → Prop), Inv X pins σ H s → t σ H Q → wpAny (model X.prog X.w) X.A (isTrue e X.env whole) (TP X pins σ Q) X.xe s
theorem PW.pt {X : Cx} {e : Expr} {t : TT} (h : PW X e t) : PT X e t := h _
noncomputable def PA (X : Cx) (es : List Expr) (t : TA) : Prop :=
  ∀ (pos : Pos) (pins : List (Addr × Obj)) (s : Shared) (σ : St) (H : Hp) (Q : List V → Hp → Prop), Inv X pins σ H s → t σ H Q → wpAny (model X.prog X.w) X.A (spliced (backTo pos (starEach es X.env))) (AP X pins σ Q) X.xe s
noncomputable def PS (X : Cx) (st : Stmt) (t : TS) : Prop :=
  ∀ (pins : List (Addr × Obj)) (s : Shared) (σ : St) (H : Hp) (D : Ends), Inv X pins σ H s → t D σ H → wpAny (model X.prog X.w) X.A (exec st X.env) (SP X pins D) X.xe s
noncomputable def PSs (X : Cx) (st : List Stmt) (t : TS) : Prop :=
  ∀ (pins : List (Addr × Obj)) (s : Shared) (σ : St) (H : Hp) (D : Ends), Inv X pins σ H s → t D σ H → wpAny (model X.prog X.w) X.A (execs st X.env) (SP X pins D) X.xe s
theorem thn {α : Type} {t : Sem α} {Q Q' : α → Shared → Prop} {M : Model} {A : Around} {E : Value → Shared → Prop} {s : Shared} (h : wpAny M A t Q E s) (hQ : ∀ a s, Q a s → Q' a s) : wpAny M A t Q' E s := wpAny_mono h hQ fun _ _ x => x
end L2
namespace L2
open PySem PySem.Spec PyProof.Rows
section
variable {X : Cx}
noncomputable def zaJ (i : Nat) : TE := fun σ H Q => ∃ v, σ[i]? = some (some v) ∧ Q v H
noncomputable def tC (v : V) : TE := fun _ H Q => Q v H
theorem zab {i : Nat} {x : Str} {pos : Pos} (hN : X.N[i]? = some x) (hv : Vis X.env.scope x) (hd : (x == ("__debug__" : Str)) = false := by decide) (hcd : (x == ("__classdict__" : Str)) = false := by decide) : PE X (.Name x pos) (zaJ i) := by
  intro pins s σ H Q I h;obtain ⟨v, e, h⟩ := h;obtain ⟨m, hn, hl⟩ := I.loc;obtain ⟨u, r, l⟩ := hl i x v hN e hv;have fin : EP X pins σ Q u s := ⟨v, H, I, r, h⟩;rcases l with ⟨hk, hm⟩ | ⟨hk, c, hc, hcell⟩
  · exact wpAny_Name (wpAny_loadName_local I.ok.kind hk hn hm fin) hd
  · rcases hk with hk | hk
    · exact wpAny_Name (wpAny_loadName_cell I.ok.kind hk hc hcell fin) hd
    · exact wpAny_Name (wpAny_loadName_free I.ok.kind hk hc hcell fin hcd) hd
theorem za {i j pos} : PE X (.Constant (.int i) j pos) (tC (.int i)) := fun _ _ _ H _ I h => wpAny_Constant_int ⟨.int i, H, I.tok _, ⟨_, rfl⟩, h⟩
theorem yP {b j pos} : PE X (.Constant (.bool b) j pos) (tC (.bl b)) := fun _ _ _ H _ I h => Constant_bool ⟨.bl b, H, I, rfl, h⟩
theorem z67 {j pos} : PE X (.Constant .none j pos) (tC .non) := fun _ _ _ H _ I h => Constant_none ⟨.non, H, I, rfl, h⟩
theorem zn {x j pos} : PE X (.Constant (.str x) j pos) (tC (.str x)) := fun _ _ _ H _ I h => Calls.Constant_str ⟨.str x, H, I.tok _, ⟨_, rfl⟩, h⟩
noncomputable def Gl (X : Cx) (x : Str) : Prop := X.env.kindOf x = some .globalImplicit
theorem z4q {E : Value → Shared → Prop} {pins : List (Addr × Obj)} {s : Shared} {σ : St} {H : Hp} {x : Str} {u : Value} {pos : Pos} {Q : Value → Shared → Prop} (I : Inv X pins σ H s) (hg : Gl X x) (hm : X.mg x = some u) (h : Q u s)
    (hd : (x == ("__debug__" : Str)) = false := by decide) : wpAny (model X.prog X.w) X.A (eval (.Name x pos) X.env) Q E s :=
  Calls.Name_function_global I.ok.kind hg (Calls.loadGlobal_global (by rw [I.ok.glob]; exact I.mod.glob.keeps I.bk) hm h) hd
theorem z0N {E : Value → Shared → Prop} {pins : List (Addr × Obj)} {s : Shared} {σ : St} {H : Hp} {x : Str} {u : Value} {pos : Pos} {Q : Value → Shared → Prop} (I : Inv X pins σ H s) (hg : Gl X x) (hm : X.mg x = none) (hv : bootBuiltins x = some u) (h : Q u s)
    (hn : x ≠ "__name__" := by decide) (hd : (x == ("__debug__" : Str)) = false := by decide) : wpAny (model X.prog X.w) X.A (eval (.Name x pos) X.env) Q E s := by
  obtain ⟨mb, h1, h2⟩ := I.mod.blt;exact Calls.Name_function_global I.ok.kind hg (Calls.loadGlobal_builtin (by rw [I.ok.glob]; exact I.mod.glob.keeps I.bk) hm (by rw [I.ok.blt]; exact h1.keeps I.bk) ((h2 x hn).trans hv) h) hd
theorem z6K {x : Str} {v : V} {u : Value} {pos : Pos} (hg : Gl X x) (hm : X.mg x = some u) (r : RelV v u) (hd : (x == ("__debug__" : Str)) = false := by decide) : PE X (.Name x pos) (tC v) :=
  fun _ _ _ H _ I h => z4q I hg hm ⟨v, H, I, r, h⟩ hd
theorem yw {x : Str} {v : V} {u : Value} {pos : Pos} (hg : Gl X x) (hm : X.mg x = none) (hv : bootBuiltins x = some u) (r : RelV v u) (hn : x ≠ "__name__" := by decide) (hd : (x == ("__debug__" : Str)) = false := by decide) : PE X (.Name x pos) (tC v) :=
  fun _ _ _ H _ I h => z0N I hg hm hv ⟨v, H, I, r, h⟩ hn hd
variable {a b : Expr} {ta tb : TE} {pos : Pos}
noncomputable def tB (t : TE) : TT := fun σ H Q => t σ H fun x H1 => ∃ c, x = .bl c ∧ Q c H1
theorem yl {e : Expr} {t : TE} (h : PE X e t) (he : ∀ whole, isTrue e X.env whole = (do let v ← whole; standAt e.pos; holding [v] (truthy v)) := by intro _; rfl) : PT X e (tB t) := by
  intro pins s σ H Q I hw;refine isTrue_plain (thn (h pins s σ H _ I hw) fun v s1 ⟨x, H1, I1, r1, q1⟩ => ?_) (he _);obtain ⟨d, rfl, q⟩ := q1;cases r1;exact wpAny_truthy_bool ⟨H1, I1, q⟩
variable {tA tB' : TT} {rest : List Expr}
noncomputable def zba (t u : TT) : TT := fun σ H Q => t σ H fun c H1 => if c = true then u σ H1 Q else Q false H1
noncomputable def zbf (t : TT) : TT := fun σ H Q => t σ H fun c H1 => Q (!c) H1
theorem z4x (ha : PT X a tA) : PW X (.BoolOp .And [a] pos) tA := by
  intro wh pins s σ H Q I h;refine isTrue_and (thn (ha pins s σ H Q I h) fun c s1 e => ?_);cases c with
  | true => exact isTrue_and_nil e
  | false => exact e
theorem z2J (ha : PT X a tA) (hb : PW X (.BoolOp .And (b :: rest) pos) tB') : PW X (.BoolOp .And (a :: b :: rest) pos) (zba tA tB') := by
  intro wh pins s σ H Q I h;refine isTrue_and (thn (ha pins s σ H _ I h) fun c s1 ⟨H1, I1, q1⟩ => ?_);cases c with
  | true => exact hb wh pins s1 σ H1 Q I1 q1
  | false => exact ⟨H1, I1, q1⟩
theorem z04 (ha : PT X a tA) : PT X (.UnaryOp .Not a pos) (zbf tA) := by
  intro pins s σ H Q I h;exact isTrue_not (ha pins s σ H (fun c H1 => Q (!c) H1) I h)
noncomputable def zaC (ta tb : TE) : TE := fun σ H Q => ta σ H fun x H1 => ∃ c, x = .bl c ∧ if c = true then tb σ H1 Q else Q (.bl false) H1
noncomputable def zaE (ta : TE) : TE := fun σ H Q => ta σ H fun x H1 => ∃ c, x = .bl c ∧ Q (.bl (!c)) H1
theorem z7A {op} {t : TE} (h : PE X a t) : PE X (.BoolOp op [a] pos) t := fun pins s σ H Q I hw => BoolOp_one (h pins s σ H Q I hw)
theorem z8r (ha : PE X a ta) (hb : PE X (.BoolOp .And (b :: rest) pos) tb) : PE X (.BoolOp .And (a :: b :: rest) pos) (zaC ta tb) := by
  intro pins s σ H Q I h;refine BoolOp_and (thn (ha pins s σ H _ I h) fun v s1 ⟨x, H1, I1, r1, q1⟩ => ?_);obtain ⟨c, rfl, q1⟩ := q1;cases r1;refine wpAny_truthy_bool ?_;cases c with
  | true => exact hb pins s1 σ H1 Q I1 q1
  | false => exact ⟨.bl false, H1, I1, rfl, q1⟩
theorem z64 (ha : PE X a ta) : PE X (.UnaryOp .Not a pos) (zaE ta) := by
  intro pins s σ H Q I h;refine UnaryOp_ (thn (ha pins s σ H _ I h) fun v s1 ⟨x, H1, I1, r1, q1⟩ => ?_);obtain ⟨c, rfl, q1⟩ := q1;cases r1;exact not_of (wpAny_truthy_bool ⟨.bl (!c), H1, I1, rfl, q1⟩)
end
end L2
namespace L2
open PySem PySem.Spec PyProof.Rows
noncomputable def SqL (K : PySem.W.Frag) (H : Hp) (a : Addr) (xs : List V) : Prop :=
  Rd H a (.lst xs) ∨
    ∃ (o : Obj) (its : Array Value) (n : Nat), K.lookup a = some o ∧ o.cls = .type "list" ∧ o.dict = none ∧ o.data = .seq its n ∧ its.size ≤ sizeLine ∧ zP xs its.toList
noncomputable def SqT (K : PySem.W.Frag) (H : Hp) (a : Addr) (xs : List V) : Prop :=
  Rd H a (.tup xs) ∨
    ∃ (o : Obj) (its : Array Value) (n : Nat), K.lookup a = some o ∧ o.cls = .type "tuple" ∧ o.data = .seq its n ∧ its.size ≤ sizeLine ∧ zP xs its.toList
noncomputable def zb3 : Value → Option V
  | .none => some .non
  | .bool b => some (.bl b)
  | .int i _ => some (.int i)
  | .str x _ => some (.str x)
  | .bytes b _ => some (.byt b)
  | .float b _ => some (.flt b)
  | .ref a => some (.ref a)
  | .type n => some (.ty n)
  | _ => none
theorem RelV.abs {x : V} {u : Value} (r : RelV x u) : zb3 u = some x := by
  cases x with
  | non => cases r; rfl
  | bl _ => cases r; rfl
  | int _ => obtain ⟨t, rfl⟩ := r; rfl
  | str _ => obtain ⟨t, rfl⟩ := r; rfl
  | byt _ => obtain ⟨t, rfl⟩ := r; rfl
  | flt _ => obtain ⟨t, rfl⟩ := r; rfl
  | ref _ => cases r; rfl
  | ty _ => cases r; rfl
theorem RelV.inj {x y : V} {u : Value} (r : RelV x u) (q : RelV y u) : x = y := Option.some.inj (r.abs.symm.trans q.abs)
theorem zP.inj : ∀ {xs ys : List V} {us : List Value}, zP xs us → zP ys us → xs = ys
  | _, _, _, .nil, .nil => rfl
  | _, _, _, .cons r t, .cons r' t' => by rw [r.inj r', zP.inj t t']
section
variable {X : Cx} {pins : List (Addr × Obj)} {σ : St} {H : Hp} {s : Shared} {a : Addr} {xs ys : List V}
theorem SqL.of {K : PySem.W.Frag} (h : H a = some (.lst xs)) : SqL K H a xs := .inl (.inl h)
theorem SqT.of {K : PySem.W.Frag} (h : H a = some (.tup xs)) : SqT K H a xs := .inl (.inl h)
theorem Inv.list (I : Inv X pins σ H s) (h : SqL X.K H a xs) : ∃ its : List Value, zP xs its ∧ PlainL s.heap a its.toArray ∧ xs.length ≤ sizeLine := by
  rcases h with h | ⟨o, its, n, hk, hc, hd, hs, hz, r⟩
  · obtain ⟨z, its, n, r, e⟩ := h.ok I.hok;exact ⟨its, r, ⟨_, n, e, rfl, rfl, rfl⟩, z⟩
  · refine ⟨its.toList, r, ⟨o, n, I.kIn a o hk, hc, hd, by simpa using hs⟩, ?_⟩;have e := r.length;simp only [Array.length_toList] at e;omega
theorem Inv.tuple (I : Inv X pins σ H s) (h : SqT X.K H a xs) : ∃ its : List Value, zP xs its ∧ IsTup s.heap a its.toArray ∧ xs.length ≤ sizeLine := by
  rcases h with h | ⟨o, its, n, hk, hc, hs, hz, r⟩
  · obtain ⟨z, its, r, p⟩ := h.ok I.hok;exact ⟨its, r, p, z⟩
  · refine ⟨its.toList, r, ⟨o, I.kIn a o hk, hc, n, by simpa using hs⟩, ?_⟩;have e := r.length;simp only [Array.length_toList] at e;omega
theorem Inv.list_inj (I : Inv X pins σ H s) (h : SqL X.K H a xs) (h' : SqL X.K H a ys) : xs = ys := by
  obtain ⟨its, r, ⟨o, n, e, _, _, d⟩, _⟩ := I.list h;obtain ⟨its', r', ⟨o', n', e', _, _, d'⟩, _⟩ := I.list h';rw [e] at e'; cases e';rw [d] at d'
  injection d' with d1 _
  have : its = its' := by simpa using congrArg Array.toList d1
  subst this;exact r.inj r'
theorem Inv.tuple_inj (I : Inv X pins σ H s) (h : SqT X.K H a xs) (h' : SqT X.K H a ys) : xs = ys := by
  obtain ⟨its, r, ⟨o, e, _, n, d⟩, _⟩ := I.tuple h;obtain ⟨its', r', ⟨o', e', _, n', d'⟩, _⟩ := I.tuple h';rw [e] at e'; cases e';rw [d] at d'
  injection d' with d1 _
  have : its = its' := by simpa using congrArg Array.toList d1
  subst this;exact r.inj r'
end
noncomputable abbrev Cx.wish (X : Cx) (E : Value → Shared → Prop) : Cx := { X with xe := E }
noncomputable abbrev Cx.nox (X : Cx) : Cx := X.wish fun _ _ => False
theorem Cx.Ok.wish {X : Cx} (ok : X.Ok) (E : Value → Shared → Prop) : (X.wish E).Ok :=
  ⟨ok.mod, ok.kind, ok.glob, ok.blt, ok.above, ok.inj, ok.has, ok.cab, ok.hd, ok.frames, ok.stk, ok.exf, ok.bs, ok.bsz, ok.noex, ok.exfs, ok.funs, ok.frf⟩
theorem Cx.Ok.unwish {X : Cx} {E : Value → Shared → Prop} (ok : (X.wish E).Ok) : X.Ok :=
  ⟨ok.mod, ok.kind, ok.glob, ok.blt, ok.above, ok.inj, ok.has, ok.cab, ok.hd, ok.frames, ok.stk, ok.exf, ok.bs, ok.bsz, ok.noex, ok.exfs, ok.funs, ok.frf⟩
section
variable {X : Cx} {pins : List (Addr × Obj)} {σ : St} {H : Hp} {s : Shared} {E : Value → Shared → Prop}
theorem Inv.wish (I : Inv X pins σ H s) (E : Value → Shared → Prop) : Inv (X.wish E) pins σ H s := ⟨I.ok.wish E, I.os, I.bare, I.base, I.loc, I.cell, I.free, I.freeC, I.pin, I.hok, I.len⟩
theorem Inv.unwish (I : Inv (X.wish E) pins σ H s) : Inv X pins σ H s := ⟨I.ok.unwish, I.os, I.bare, I.base, I.loc, I.cell, I.free, I.freeC, I.pin, I.hok, I.len⟩
theorem SP.unwish {D : Ends} {f : Flow} {s' : Shared} (h : SP (X.wish E) pins D f s') : SP X pins D f s' := by
  cases f with
  | next => obtain ⟨σ', H', I, q⟩ := h; exact ⟨σ', H', I.unwish, q⟩
  | brk => obtain ⟨σ', H', I, q⟩ := h; exact ⟨σ', H', I.unwish, q⟩
  | cont => obtain ⟨σ', H', I, q⟩ := h; exact ⟨σ', H', I.unwish, q⟩
  | ret u => obtain ⟨v, σ', H', I, r, q⟩ := h; exact ⟨v, σ', H', I.unwish, r, q⟩
theorem PSs.nox {st : List Stmt} {t : TS} (h : PSs X.nox st t) : PSs X st t := fun pins s σ H D I hw =>
  wpAny_mono (h pins s σ H D (I.wish _) hw) (fun _ _ q => q.unwish) fun _ _ z => False.elim z
end
section
variable {X : Cx} {st : Stmt} {rest : List Stmt} {t u : TS} {e : Expr} {te : TE} {pos : Pos}
noncomputable def zaQ : TS := fun D σ H => D.nx σ H
noncomputable def zaq (t u : TS) : TS := fun D σ H => t { D with nx := u D } σ H
theorem zE : PSs X [] zaQ := fun _ _ σ H _ I h => wpAny_execs_nil ⟨σ, H, I, h⟩
theorem zd (h1 : PS X st t) (h2 : PSs X rest u) : PSs X (st :: rest) (zaq t u) := by
  intro pins s σ H D I h;refine wpAny_execs_cons (thn (h1 pins s σ H { D with nx := u D } I h) fun f s1 q => ?_);cases f with
  | next =>
    obtain ⟨σ', H', I', q⟩ := q;exact h2 pins s1 σ' H' D I' q
  | ret v => exact q
  | brk => exact q
  | cont => exact q
theorem zg (h1 : PS X st t) : PSs X [st] t := by
  intro pins s σ H D I h;refine wpAny_execs_cons (thn (h1 pins s σ H D I h) fun f s1 q => ?_);cases f with
  | next => exact wpAny_execs_nil q
  | ret v => exact q
  | brk => exact q
  | cont => exact q
theorem Inv.quiet {pins : List (Addr × Obj)} {σ : St} {H : Hp} {s : Shared} (I : Inv X pins σ H s) : interactive X.env = false := by simp [interactive, I.ok.kind]
noncomputable def zax (te : TE) : TS := fun D σ H => te σ H fun _ H1 => D.nx σ H1
theorem jc (he : PE X e te) (hs : swapsWith e none pos.line X.env = pure false := by rfl) : PS X (.Expr e pos) (zax te) := by
  intro pins s σ H D I h;exact wpAny_Expr_any (thn (he pins s σ H _ I h) fun v s1 ⟨x, H1, I1, r1, q1⟩ => ⟨σ, H1, I1, q1⟩) I.quiet hs
noncomputable def zbl (te : TE) : TS := fun D σ H => te σ H D.rt
theorem zB (he : PE X e te) : PS X (.Return (some e) pos) (zbl te) := by
  intro pins s σ H D I h;exact wpAny_Return_some (thn (he pins s σ H _ I h) fun v s1 ⟨x, H1, I1, r1, q1⟩ => ⟨x, σ, H1, I1, r1, q1⟩)
noncomputable def zaZ (c : TT) (t u : TS) : TS := fun D σ H => c σ H fun b H1 => if b = true then t D σ H1 else u D σ H1
theorem zO {c : Expr} {a b : List Stmt} {tc : TT} (hc : PT X c tc) (ha : PSs X a t) (hb : PSs X b u) : PS X (.If c a b pos) (zaZ tc t u) := by
  intro pins s σ H D I h;refine wpAny_If (thn (hc pins s σ H _ I h) fun d s1 ⟨H1, I1, q1⟩ => ?_);cases d with
  | true => exact ha pins s1 σ H1 D I1 q1
  | false => exact hb pins s1 σ H1 D I1 q1
noncomputable def za7 : TS := fun _ _ _ => False
theorem z1F : PS X st za7 := fun _ _ _ _ _ _ h => h.elim
end
noncomputable abbrev TG := V → St → Hp → (St → Hp → Prop) → Prop
noncomputable def PG (X : Cx) (target : Expr) (t : TG) : Prop :=
  ∀ (pins : List (Addr × Obj)) (s : Shared) (σ : St) (H : Hp) (v : V) (u : Value) (Q : St → Hp → Prop), Inv X pins σ H s → RelV v u → t v σ H Q →
    wpAny (model X.prog X.w) X.A (assign target X.env u) (fun _ s' => ∃ σ' H', Inv X pins σ' H' s' ∧ Q σ' H') X.xe s
noncomputable abbrev zae := V → V → V → Hp → (Hp → Prop) → Prop
noncomputable def zao (X : Cx) (t : zae) : Prop :=
  ∀ (pins : List (Addr × Obj)) (s : Shared) (σ : St) (H : Hp) (o i v : V) (ov iv u : Value) (Q : Hp → Prop), Inv X pins σ H s → RelV o ov → RelV i iv → RelV v u → t o i v H Q →
    wpAny (model X.prog X.w) X.A (setItem ov iv u) (fun _ s' => ∃ H', Inv X pins σ H' s' ∧ Q H') X.xe s
section
variable {X : Cx} {pos : Pos}
noncomputable def z7z (i : Nat) : TG := fun v σ H Q => Q (σ.set i (some v)) H
theorem jf {i : Nat} {x : Str} (hN : X.N.Nodup) (hi : X.N[i]? = some x) (hx : Loc X.env.scope x) (hf : X.fn x = true ∨ X.env.scope.names.lookup x = some .local := by first | exact .inl rfl | exact .inr rfl | assumption) : PG X (.Name x pos) (z7z i) := by
  intro pins s σ H v u Q I r h;exact wpAny_assign_Name (z2I I hN hi hx r (fun s' I' => ⟨_, H, I', h⟩) hf)
noncomputable def zaV (to ti : TE) (t : zae) : TG := fun v σ H Q => to σ H fun o H1 => ti σ H1 fun i H2 => t o i v H2 fun H3 => Q σ H3
theorem za5 {o i : Expr} {to ti : TE} {t : zae} (ho : PE X o to) (hi : PE X i ti) (hs : zao X t)
    (ha : ∀ v, assign (.Subscript o i pos) X.env v = (do
      let ov ← holding [v] (eval o X.env)
      let iv ← holding [v, ov] (eval i X.env)
      standAt pos
      holding [v, ov, iv] (setItem ov iv v)
      release [v, ov, iv] []) := by intro _; rfl) : PG X (.Subscript o i pos) (zaV to ti t) := by
  intro pins s σ H v u Q I r h;rw [ha];refine wpAny_bind (wpAny_holding (thn (ho pins s σ H _ I h) fun ov s1 ⟨x, H1, I1, r1, q1⟩ => ?_));refine wpAny_bind (wpAny_holding (thn (hi pins s1 σ H1 _ I1 q1) fun iv s2 ⟨y, H2, I2, r2, q2⟩ => ?_));refine wpAny_bind (wpAny_standAt (wpAny_bind (wpAny_holding (thn (hs pins s2 σ H2 x y v ov iv u _ I2 r1 r2 r q2) fun _ s3 ⟨H3, I3, q3⟩ => ?_))));exact wpAny_release ⟨σ, H3, I3, q3⟩
noncomputable def zav (te : TE) (g : TG) : TS := fun D σ H => te σ H fun x H1 => g x σ H1 D.nx
theorem z9M {tg e : Expr} {te : TE} {g : TG} (he : PE X e te) (hg : PG X tg g) (hs : swapsWithSole [tg] e pos.line X.env = pure false := by rfl) (hw : swappedStores [tg] e X.env = pure none := by rfl)
    (h1 : (assignEach [tg] X.env).map (·.2) = [assign tg X.env] := by rfl) : PS X (.Assign [tg] e pos) (zav te g) := by
  intro pins s σ H D I h;refine wpAny_Assign_stores (thn (he pins s σ H _ I h) fun v s1 ⟨x, H1, I1, r1, q1⟩ => ?_) hs hw;rw [h1];exact thn (hg pins s1 σ H1 x v _ I1 r1 q1) fun _ s2 q => q
theorem zo {i : Nat} {x : Str} {e : Expr} {te : TE} {pos' : Pos} (hN : X.N.Nodup) (hi : X.N[i]? = some x) (hx : Loc X.env.scope x) (he : PE X e te) (hs : swapsWith e (some (.Name x pos')) pos.line X.env = pure false := by rfl) (hf : X.fn x = true ∨ X.env.scope.names.lookup x = some .local := by first | exact .inl rfl | exact .inr rfl | assumption) :
    PS X (.Assign [.Name x pos'] e pos) (zav te (z7z i)) := by
  intro pins s σ H D I h;refine wpAny_Assign_Name (thn (he pins s σ H _ I h) fun v s1 ⟨y, H1, I1, r1, q1⟩ => ?_) hs;exact z2I I1 hN hi hx r1 (fun s2 I2 => ⟨_, H1, I2, q1⟩) hf
end
section
variable {X : Cx} {pos : Pos}
noncomputable def z85 (c : TT) (tb : TS) : TS := fun D σ H => ∃ W : Nat → St → Hp → Prop, (∃ m, W m σ H) ∧ ∀ m σ H, W m σ H →
  c σ H fun b H1 => if b = true then ∃ N : St → Hp → Prop, (∀ σ' H', N σ' H' → ∃ m', m' < m ∧ W m' σ' H') ∧ tb { D with nx := N, ct := N, bk := D.nx } σ H1 else D.nx σ H1
theorem z0M {c : Expr} {body : List Stmt} {tc : TT} {tb : TS} (hp : PassesOwn (model X.prog X.w) X.A X.env X.xe) (hc : PT X c tc) (hb : PSs X body tb) : PS X (.While c body [] pos) (z85 tc tb) := by
  intro pins s σ H D I h;obtain ⟨W, ⟨m0, w0⟩, turn⟩ := h;refine wpAny_While (codeAny_whileLoop (fun n s' => ∃ σ' H', Inv X pins σ' H' s' ∧ W n σ' H') ?_ m0 ⟨σ, H, I, w0⟩);rintro n s1 ⟨σ1, H1, I1, w1⟩;refine wpAny_passesOwn hp (thn (hc pins s1 σ1 H1 _ I1 (turn n σ1 H1 w1)) fun b s2 ⟨H2, I2, q2⟩ => ?_);cases b with
  | true =>
    obtain ⟨N, hN, q2⟩ := q2;rw [if_pos rfl];refine wpAny_passesOwn hp (thn (hb pins s2 σ1 H2 _ I2 q2) fun f s3 q3 => ?_);cases f with
    | next =>
      obtain ⟨σ3, H3, I3, n3⟩ := q3;obtain ⟨m', hm, w3⟩ := hN σ3 H3 n3;exact ⟨m', hm, σ3, H3, I3, w3⟩
    | cont =>
      obtain ⟨σ3, H3, I3, n3⟩ := q3;obtain ⟨m', hm, w3⟩ := hN σ3 H3 n3;exact ⟨m', hm, σ3, H3, I3, w3⟩
    | brk => exact q3
    | ret v => exact q3
  | false =>
    rw [if_neg Bool.false_ne_true];exact wpAny_execs_nil ⟨σ1, H2, I2, q2⟩
end
structure It where
  go : Nat → Hp → Prop
  yld : Nat → Hp → V → Hp → Prop
  stop : Nat → Hp → Prop
noncomputable def z3x (X : Cx) (pins : List (Addr × Obj)) (H : Hp) (b : Addr) : Prop :=
  H b = none ∧ b ≠ X.env.locals ∧ b ∉ X.fs ∧ (b ∈ X.ex ∨ X.s₀.heap.objs.size ≤ b) ∧ (∀ x c, X.env.cells.lookup x = some c → c ≠ b) ∧ ∀ p ∈ X.pn ++ pins, p.1 ≠ b
theorem Inv.fpOk {X : Cx} {pins : List (Addr × Obj)} {σ : St} {H H' : Hp} {s : Shared} {b : Addr} (I : Inv X pins σ H s) (hb : s.heap.objs.size ≤ b) (hn : H' b = none) : z3x X pins H' b := by
  refine ⟨hn, Nat.ne_of_gt (Nat.lt_of_lt_of_le I.lt hb), I.nofs hb, .inr (Nat.le_trans I.sz hb), fun x c e z => ?_, fun p hp z => ?_⟩
  · obtain ⟨v, q⟩ := I.cell x c e;exact absurd (Nat.lt_of_lt_of_le q.lt (by rw [z]; exact hb)) (Nat.lt_irrefl _)
  · exact absurd (Nat.lt_of_lt_of_le (Heap.lt_size (I.pin p hp).1) (by rw [z]; exact hb)) (Nat.lt_irrefl _)
structure Turn (P : Program) (w : World) (K : PySem.W.Frag) (tg : Expr) (J : It) (fp : List Addr) (it : Addr) (tn : Nat → Heap → Prop) : Prop where
  mem : it ∈ fp
  obj : ∀ i h, tn i h → ∀ b ∈ fp, ∃ o, h.get? b = some o ∧ ∀ v, o.data ≠ .cell v
  keep : ∀ i h h', tn i h → (∀ b ∈ fp, ∀ o, h.get? b = some o → h'.get? b = some o) → tn i h'
  item : ∀ (X : Cx), X.prog = P → X.w = w → X.K = K → X.calm = true → ∀ (i : Nat) (pins : List (Addr × Obj)) (s : Shared) (σ : St) (H : Hp) (E : Value → Shared → Prop), Inv X pins σ H s → (∀ b ∈ fp, z3x X pins H b) → tn i s.heap → J.go i H →
    wpAny (model P w) X.A (pyNext (.ref it)) (fun r s1 => ∃ u, r = some u ∧
      wpAny (model P w) X.A (letOwnedTupleGo tg (.ref it) u) (fun _ s2 => ∃ x H', Inv X pins σ H' s2 ∧ RelV x u ∧ J.yld i H x H' ∧ tn (i + 1) s2.heap ∧ ∀ b ∈ fp, H' b = none) E s1) E s
  done : ∀ (X : Cx), X.prog = P → X.w = w → X.K = K → X.calm = true → ∀ (i : Nat) (pins : List (Addr × Obj)) (s : Shared) (σ : St) (H : Hp) (E : Value → Shared → Prop), Inv X pins σ H s → (∀ b ∈ fp, z3x X pins H b) → tn i s.heap → J.stop i H →
    wpAny (model P w) X.A (pyNext (.ref it)) (fun r s1 => r = none ∧ Inv X pins σ H s1) E s
  self : ∀ (A : Around) (i : Nat) (s : Shared) (Q : Value → Shared → Prop) (E : Value → Shared → Prop), tn i s.heap → Q (.ref it) s → wpAny (model P w) A (pyIter (.ref it)) Q E s
noncomputable abbrev TI := St → Hp → (It → Hp → Prop) → Prop
noncomputable def PIE (X : Cx) (pins : List (Addr × Obj)) (σ : St) (tg : Expr) (R : It → Hp → Prop) (itv : Value) (s2 : Shared) : Prop :=
  ∃ (it : Addr) (fp : List Addr) (tn : Nat → Heap → Prop) (J : It) (H' : Hp), itv = .ref it ∧ Inv X pins σ H' s2 ∧ Turn X.prog X.w X.K tg J fp it tn ∧ tn 0 s2.heap ∧ (∀ b ∈ fp, z3x X pins H' b) ∧ R J H'
noncomputable def PI (X : Cx) (tg iter : Expr) (wi : TI) : Prop :=
  ∀ (pins : List (Addr × Obj)) (s : Shared) (σ : St) (H : Hp) (R : It → Hp → Prop), Inv X pins σ H s → wi σ H R →
    wpAny (model X.prog X.w) X.A (eval iter X.env) (fun v s1 => wpAny (model X.prog X.w) X.A (pyIter v) (PIE X pins σ tg R) X.xe s1) X.xe s
theorem z6g {M : Model} {A : Around} {E : Value → Shared → Prop} {s : Shared} {tg : Expr} {it : Addr} {u : Value} {o : Obj} {n : String} {vs : Array Value} {Q : Unit → Shared → Prop} (ho : s.heap.get? it = some o) (hc : o.cls = .type n) (hd : o.data = .fields vs)
    (hn : ["enumerate", "zip", "dict_itemiterator", "dict_reverseitemiterator", "odict_iterator", "itertools.zip_longest", "itertools.pairwise"].contains n = false) (hQ : Q () s) : wpAny M A (letOwnedTupleGo tg (.ref it) u) Q E s := by
  unfold letOwnedTupleGo;cases tg <;> first
    | exact wpAny_pure hQ
    | (cases u <;> first
        | exact wpAny_pure hQ
        | (refine wpAny_bind (wpAny_load ho ?_)
           rw [hc, hd]
           show wpAny M A (if (["enumerate", "zip", "dict_itemiterator", "dict_reverseitemiterator", "odict_iterator", "itertools.zip_longest", "itertools.pairwise"].contains n && vs[0]? == some (rawInt _)) = true then _ else _) Q E s
           rw [if_neg (by intro h; rw [hn, Bool.false_and] at h; cases h)];exact wpAny_pure hQ))
noncomputable def Itl (K : PySem.W.Frag) (a : Addr) : It :=
  ⟨fun i H => ∃ xs x, SqL K H a xs ∧ xs[i]? = some x, fun i H x H' => H' = H ∧ ∀ xs, SqL K H a xs → xs[i]? = some x, fun i H => ∃ xs, SqL K H a xs ∧ xs.length ≤ i⟩
noncomputable def Itt (K : PySem.W.Frag) (a : Addr) : It :=
  ⟨fun i H => ∃ xs x, SqT K H a xs ∧ xs[i]? = some x, fun i H x H' => H' = H ∧ ∀ xs, SqT K H a xs → xs[i]? = some x, fun i H => ∃ xs, SqT K H a xs ∧ xs.length ≤ i⟩
noncomputable def Itr (lo : Int) (n : Nat) : It := ⟨fun i _ => i < n, fun i H x H' => H' = H ∧ x = .int (lo + i), fun i _ => n ≤ i⟩
theorem z7e {P : Program} {w : World} {K : PySem.W.Frag} {tg : Expr} (a it : Addr) : Turn P w K tg (Itl K a) [it] it (fun i h => h.IsListIter it a i) where
  mem := by simp
  obj := fun i h st b hb => by
    have e : b = it := by simpa using hb
    subst e;obtain ⟨o, e, c, d⟩ := st;exact ⟨o, e, fun v z => by rw [d] at z; cases z⟩
  keep := fun i h h' st k => st.at fun o e => k it (by simp) o e
  item := by
    intro X hP hw hK hc i pins s σ H E I hf st hg;subst hP hw hK;obtain ⟨xs, x, hq, hx⟩ := hg;obtain ⟨its, rv, p, hz⟩ := I.list hq;obtain ⟨u, hu, ru⟩ := rv.get hx;obtain ⟨f0, f1, f2, f3, f4, f5⟩ := hf it (by simp);refine wpAny_pyNext_list_item st p.isList (x := u) (by simpa using hu) fun h' st' sb => ?_
    have I1 : Inv X pins σ H { s with heap := h' } := I.turned (t' := s.toks) (fun b o hb e => (sb.2 b hb).trans e) f0 f1 f3 f4 f5;obtain ⟨o, e, c, d⟩ := id st';exact ⟨u, rfl, z6g (s := { s with heap := h' }) e c d (by decide) ⟨x, H, I1, ru, ⟨rfl, fun ys hy => by rw [I.list_inj hy hq]; exact hx⟩, st', fun b hb => (hf b hb).1⟩⟩
  done := by
    intro X hP hw hK hc i pins s σ H E I hf st hg;subst hP hw hK;obtain ⟨xs, hq, hx⟩ := hg;obtain ⟨its, rv, p, hz⟩ := I.list hq;obtain ⟨f0, f1, f2, f3, f4, f5⟩ := hf it (by simp);have hl := rv.length;exact wpAny_pyNext_list_end (I.ok.hd hc) st p.isList (by simp; omega) fun h' eb => ⟨rfl, I.turned (t' := s.toks) (fun b o hb e => eb b o hb e) f0 f1 f3 f4 f5⟩
  self := fun _ _ _ _ _ st h => wpAny_pyIter_listiter st h
theorem z65 {P : Program} {w : World} {K : PySem.W.Frag} {tg : Expr} (a it : Addr) : Turn P w K tg (Itt K a) [it] it (fun i h => h.IsTupleIter it a i) where
  mem := by simp
  obj := fun i h st b hb => by
    have e : b = it := by simpa using hb
    subst e;obtain ⟨o, e, c, d⟩ := st;exact ⟨o, e, fun v z => by rw [d] at z; cases z⟩
  keep := fun i h h' st k => st.at fun o e => k it (by simp) o e
  item := by
    intro X hP hw hK hc i pins s σ H E I hf st hg;subst hP hw hK;obtain ⟨xs, x, hq, hx⟩ := hg;obtain ⟨its, rv, p, hz⟩ := I.tuple hq;obtain ⟨u, hu, ru⟩ := rv.get hx;obtain ⟨f0, f1, f2, f3, f4, f5⟩ := hf it (by simp);refine wpAny_pyNext_tuple_item st (show s.heap.IsTuple a its.toArray from p) (x := u) (by simpa using hu) fun h' st' sb => ?_
    have I1 : Inv X pins σ H { s with heap := h' } := I.turned (t' := s.toks) (fun b o hb e => (sb.2 b hb).trans e) f0 f1 f3 f4 f5;obtain ⟨o, e, c, d⟩ := id st';exact ⟨u, rfl, z6g (s := { s with heap := h' }) e c d (by decide) ⟨x, H, I1, ru, ⟨rfl, fun ys hy => by rw [I.tuple_inj hy hq]; exact hx⟩, st', fun b hb => (hf b hb).1⟩⟩
  done := by
    intro X hP hw hK hc i pins s σ H E I hf st hg;subst hP hw hK;obtain ⟨xs, hq, hx⟩ := hg;obtain ⟨its, rv, p, hz⟩ := I.tuple hq;obtain ⟨f0, f1, f2, f3, f4, f5⟩ := hf it (by simp);have hl := rv.length;exact wpAny_pyNext_tuple_end (I.ok.hd hc) st (show s.heap.IsTuple a its.toArray from p) (by simp; omega) fun h' eb => ⟨rfl, I.turned (t' := s.toks) (fun b o hb e => eb b o hb e) f0 f1 f3 f4 f5⟩
  self := fun _ _ _ _ _ st h => wpAny_pyIter_tupleiter st h
theorem z62 {P : Program} {w : World} {K : PySem.W.Frag} {tg : Expr} (it : Addr) (lo : Int) (n : Nat) : Turn P w K tg (Itr lo n) [it] it (fun i h => IsRangeIter h it (lo + (i : Nat) * 1) ((n : Int) - (i : Nat)) 1) where
  mem := by simp
  obj := fun i h st b hb => by
    have e : b = it := by simpa using hb
    subst e;exact ⟨_, st, fun v z => by
      have z' : Data.fields _ = Data.cell v := z;cases z'⟩
  keep := fun i h h' st k => k it (by simp) _ st
  item := by
    intro X hP hw hK hc i pins s σ H E I hf st hg;subst hP hw hK;obtain ⟨f0, f1, f2, f3, f4, f5⟩ := hf it (by simp);have W := Walks.range (prog := X.prog) (w := X.w) (I.ok.hd hc) it lo 1 n;refine W.item i s _ _ hg st fun v h' tk hv st' kk => ?_
    obtain ⟨t, rfl⟩ := hv;have I1 : Inv X pins σ H { s with heap := h', toks := tk } := I.turned (fun b o hb e => kk b o (by simpa using hb) e) f0 f1 f3 f4 f5;refine ⟨_, rfl, z6g (s := { s with heap := h', toks := tk }) (n := "range_iterator") st' rfl rfl (by decide) ⟨.int (lo + i), H, I1, ⟨t, ?_⟩, ⟨rfl, rfl⟩, st', fun b hb => (hf b hb).1⟩⟩;rw [Int.mul_one]
  done := by
    intro X hP hw hK hc i pins s σ H E I hf st hg;subst hP hw hK;obtain ⟨f0, f1, f2, f3, f4, f5⟩ := hf it (by simp);exact wpAny_pyNext_range_end (I.ok.hd hc) st (by have : n ≤ i := hg; omega) fun h' eb => ⟨rfl, I.turned (t' := s.toks) (fun b o hb e => eb b o hb e) f0 f1 f3 f4 f5⟩
  self := fun _ _ _ _ _ st h => wpAny_pyIter_rangeiter st h
end L2
namespace L2
open PySem PySem.Spec PyProof.Rows
section
variable {X : Cx} {tg : Expr}
noncomputable def z9t (K : PySem.W.Frag) (tl : TE) : TI := fun σ H R => tl σ H fun x H1 => ∃ a, x = .ref a ∧ (∃ xs, SqL K H1 a xs) ∧ R (Itl K a) H1
noncomputable def zb5 (K : PySem.W.Frag) (tl : TE) : TI := fun σ H R => tl σ H fun x H1 => ∃ a, x = .ref a ∧ (∃ xs, SqT K H1 a xs) ∧ R (Itt K a) H1
theorem zX {l : Expr} {tl : TE} (hl : PE X l tl) : PI X tg l (z9t X.K tl) := by
  intro pins s σ H R I h;refine thn (hl pins s σ H _ I h) fun v s1 ⟨x, H1, I1, r1, q1⟩ => ?_
  obtain ⟨a, e, ⟨xs, hq⟩, q⟩ := q1;subst e;cases r1;obtain ⟨its, rv, p, hz⟩ := I1.list hq;refine wpAny_pyIter_list p.isList ?_;refine ⟨s1.heap.objs.size, [s1.heap.objs.size], _, _, H1, rfl, I1.kept (t' := s1.toks) fun b o e => Heap.get?_push_of_some _ e, z7e a _, ⟨_, Heap.get?_push_size _ rfl, rfl, rfl⟩, fun b hb => ?_, q⟩;have e : b = s1.heap.objs.size := by simpa using hb
  subst e;exact I1.fpOk (Nat.le_refl _) (I1.hok.fresh (Nat.le_refl _))
theorem z1S {l : Expr} {tl : TE} (hl : PE X l tl) : PI X tg l (zb5 X.K tl) := by
  intro pins s σ H R I h;refine thn (hl pins s σ H _ I h) fun v s1 ⟨x, H1, I1, r1, q1⟩ => ?_
  obtain ⟨a, e, ⟨xs, hq⟩, q⟩ := q1;subst e;cases r1;obtain ⟨its, rv, p, hz⟩ := I1.tuple hq;refine wpAny_pyIter_tuple (show s1.heap.IsTuple a its.toArray from p) ?_;refine ⟨s1.heap.objs.size, [s1.heap.objs.size], _, _, H1, rfl, I1.kept (t' := s1.toks) fun b o e => Heap.get?_push_of_some _ e, z65 a _, ⟨_, Heap.get?_push_size _ rfl, rfl, rfl⟩, fun b hb => ?_, q⟩;have e : b = s1.heap.objs.size := by simpa using hb
  subst e;exact I1.fpOk (Nat.le_refl _) (I1.hok.fresh (Nat.le_refl _))
theorem z5k {pins : List (Addr × Obj)} {σ : St} {H : Hp} {s : Shared} {R : It → Hp → Prop} {E : Value → Shared → Prop} {lo hi : Int} {t u v : Tok} {tk : Nat} (I : Inv X pins σ H s) (h1 : -(2 ^ 62) ≤ lo) (h2 : lo < 2 ^ 62) (h3 : -(2 ^ 62) ≤ hi) (h4 : hi < 2 ^ 62)
    (q : R (Itr lo (hi - lo).toNat) H) : wpAny (model X.prog X.w) X.A (pyIter (.ref s.heap.objs.size)) (PIE X pins σ tg R) E { s with heap := s.heap.push { cls := .type "range", data := .fields #[.int lo t, .int hi u, .int 1 v] }, toks := tk } := by
  refine wpAny_pyIter_range (IsRange.new ..) (small_one h1 h2 h3 h4) ?_;have I1 : Inv X pins σ H { s with heap := s.heap.push { cls := .type "range", data := .fields #[.int lo t, .int hi u, .int 1 v] }, toks := tk } := I.kept fun b o e => Heap.get?_push_of_some _ e
  refine ⟨(s.heap.push { cls := .type "range", data := .fields #[.int lo t, .int hi u, .int 1 v] }).objs.size, [(s.heap.push { cls := .type "range", data := .fields #[.int lo t, .int hi u, .int 1 v] }).objs.size], _, _, H, rfl,
    I1.kept (t' := tk) fun b o e => Heap.get?_push_of_some _ e, z62 _ lo (hi - lo).toNat, ?_, fun b hb => ?_, q⟩
  · have e1 : lo + ((0 : Nat) : Int) * 1 = lo := by simp
    have e2 : (((hi - lo).toNat : Nat) : Int) - ((0 : Nat) : Int) = Builtin.Range.rangeSize lo hi 1 := by rw [rangeSize_one]; split <;> omega
    show IsRangeIter _ _ (lo + ((0 : Nat) : Int) * 1) ((((hi - lo).toNat : Nat) : Int) - ((0 : Nat) : Int)) 1
    rw [e1, e2];exact Heap.get?_push_size _ rfl
  · have e : b = (s.heap.push { cls := .type "range", data := .fields #[.int lo t, .int hi u, .int 1 v] }).objs.size := by simpa using hb
    subst e;exact I1.fpOk (Nat.le_refl _) (I1.hok.fresh (Nat.le_refl _))
noncomputable def zaf (ta : TA) : TI := fun σ H R => ta σ H fun vs H1 => ∃ j : Int, vs = [.int j] ∧ -(2 ^ 62) ≤ j ∧ j < 2 ^ 62 ∧ R (Itr 0 j.toNat) H1
noncomputable def zaL (ta : TA) : TI := fun σ H R => ta σ H fun vs H1 => ∃ i j : Int, vs = [.int i, .int j] ∧ (-(2 ^ 62) ≤ i ∧ i < 2 ^ 62 ∧ -(2 ^ 62) ≤ j ∧ j < 2 ^ 62) ∧ R (Itr i (j - i).toNat) H1
theorem jW {a : Expr} {ta : TA} {p pos : Pos} (hg : Gl X "range") (hm : X.mg "range" = none) (ha : PA X [a] ta) (hs : starEach [a] X.env = [(false, eval a X.env)] := by rfl) : PI X tg (.Call (.Name "range" p) [a] [] pos) (zaf ta) := by
  intro pins s σ H R I h;refine Call_ (z0N I hg hm boot_range (PyProof.Rows.callWith_type1 (thn (ha pos pins s σ H _ I h) fun us s1 ⟨vs, H1, I1, r1, q1⟩ => ?_) hs rfl));obtain ⟨j, e, q1, q2, q⟩ := q1;subst e;cases r1 with
  | cons r rr =>
    cases rr;obtain ⟨t, rfl⟩ := r;exact call_range_1 (z5k I1 (by omega) (by omega) q1 q2 (by simpa using q))
theorem z72 {a b : Expr} {ta : TA} {p pos : Pos} (hg : Gl X "range") (hm : X.mg "range" = none) (ha : PA X [a, b] ta) (hs : starEach [a, b] X.env = [(false, eval a X.env), (false, eval b X.env)] := by rfl) (hs2 : starEach [b] X.env = [(false, eval b X.env)] := by rfl) :
    PI X tg (.Call (.Name "range" p) [a, b] [] pos) (zaL ta) := by
  intro pins s σ H R I h;refine Call_ (z0N I hg hm boot_range (PyProof.Rows.callWith_type1 (thn (ha pos pins s σ H _ I h) fun us s1 ⟨vs, H1, I1, r1, q1⟩ => ?_) (by rw [hs, hs2]) (by rw [hs2]; rfl)));obtain ⟨i, j, e, ⟨q1, q2, q3, q4⟩, q⟩ := q1;subst e;cases r1 with
  | cons r rr =>
    cases rr with
    | cons r' rr =>
      cases rr;obtain ⟨t, rfl⟩ := r;obtain ⟨t', rfl⟩ := r';exact call_range_2 (z5k I1 q1 q2 q3 q4 q)
noncomputable def zbk (wi : TI) (g : TG) (tb : TS) : TS := fun D σ H => wi σ H fun J H1 => ∃ W : Nat → Nat → St → Hp → Prop, (∃ m, W 0 m σ H1) ∧ ∀ i m σ H, W i m σ H →
  (J.stop i H ∧ D.nx σ H) ∨ (J.go i H ∧ ∃ N : St → Hp → Prop, (∀ σ' H', N σ' H' → ∃ m', m' < m ∧ W (i + 1) m' σ' H') ∧ ∀ x H', J.yld i H x H' → g x σ H' fun σ2 H2 => tb { D with nx := N, ct := N, bk := D.nx } σ2 H2)
noncomputable def z26 (fp : List Addr) (h : Heap) : List (Addr × Obj) := fp.filterMap fun b => (h.get? b).map fun o => (b, o)
theorem z0u {fp : List Addr} {h : Heap} {b : Addr} {o : Obj} (hb : b ∈ fp) (e : h.get? b = some o) : (b, o) ∈ z26 fp h := List.mem_filterMap.mpr ⟨b, hb, by rw [e]; rfl⟩
theorem z71 {fp : List Addr} {h : Heap} {p : Addr × Obj} (hp : p ∈ z26 fp h) : p.1 ∈ fp ∧ h.get? p.1 = some p.2 := by
  obtain ⟨b, hb, e⟩ := List.mem_filterMap.mp hp;cases q : h.get? b with
  | none => rw [q] at e; cases e
  | some o =>
    rw [q] at e;have e' : (b, o) = p := Option.some.inj e;subst e';exact ⟨hb, q⟩
theorem Inv.pinned {pins : List (Addr × Obj)} {σ : St} {H : Hp} {s : Shared} {fp : List Addr} (I : Inv X pins σ H s) (hf : ∀ b ∈ fp, z3x X pins H b) (ho : ∀ b ∈ fp, ∃ o, s.heap.get? b = some o ∧ ∀ v, o.data ≠ .cell v) : Inv X (pins ++ z26 fp s.heap) σ H s :=
  I.pins_of fun p hp => (List.mem_append.mp hp).elim (fun z => I.pin p (List.mem_append_right _ z)) fun z => by
    obtain ⟨hb, e⟩ := z71 z;obtain ⟨f0, f1, f2, _⟩ := hf p.1 hb;obtain ⟨o, e', d⟩ := ho p.1 hb;rw [e] at e'; cases e';exact ⟨e, f0, f1, f2, d⟩
theorem Inv.unpinned {pins pl : List (Addr × Obj)} {σ : St} {H : Hp} {s : Shared} (I : Inv X (pins ++ pl) σ H s) : Inv X pins σ H s := I.pins_of fun p hp => I.pin p (List.mem_append_right _ (List.mem_append_left _ hp))
theorem jH {iter : Expr} {body : List Stmt} {wi : TI} {g : TG} {tb : TS} {pos : Pos} (hp : PassesOwn (model X.prog X.w) X.A X.env X.xe) (hc : X.calm = true) (hi : PI X tg iter wi) (hg : PG X tg g) (hb : PSs X body tb)
    (hs : ∀ x, foldedSetIterable iter X.env x = pure x := by intro _; rfl) : PS X (.For tg iter body [] pos) (zbk wi g tb) := by
  intro pins s σ H D I h;refine wpAny_For (thn (hi pins s σ H _ I h) fun v s1 h1 => thn h1 fun itv s2 h2 => ?_) hs;obtain ⟨it, fp, tn, J, H2, e, I2, T, st2, f2, W, ⟨m0, w0⟩, turn⟩ := h2;subst e;have stat : ∀ {H' : Hp}, (∀ b ∈ fp, H' b = none) → ∀ b ∈ fp, z3x X pins H' b := fun hn b hb => ⟨hn b hb, (f2 b hb).2⟩
  refine codeAny_forLoop_any (fun n s' => ∃ i σ' H', Inv X pins σ' H' s' ∧ tn i s'.heap ∧ (∀ b ∈ fp, H' b = none) ∧ W i n σ' H') ?_ m0 ⟨0, σ, H2, I2, st2, fun b hb => (f2 b hb).1, w0⟩;rintro n s3 ⟨i, σ3, H3, I3, st3, fr3, w3⟩;rcases turn i n σ3 H3 w3 with ⟨stop, qn⟩ | ⟨go, N, hN, step⟩
  · refine wpAny_passesOwn hp (thn (T.done X rfl rfl rfl hc i pins s3 σ3 H3 X.xe I3 (stat fr3) st3 stop) fun r s4 ⟨hr, I4⟩ => ?_);subst hr;exact wpAny_execs_nil ⟨σ3, H3, I4, qn⟩
  · refine wpAny_passesOwn hp (thn (T.item X rfl rfl rfl hc i pins s3 σ3 H3 X.xe I3 (stat fr3) st3 go) fun r s4 ⟨u, hr, h4⟩ => ?_);subst hr;refine wpAny_passesOwn hp (thn h4 fun _ s5 ⟨x, H5, I5, r5, y5, st5, fr5⟩ => ?_);have I5' := I5.pinned (stat fr5) (T.obj _ _ st5);refine wpAny_passesOwn hp (thn (hg _ s5 σ3 H5 x u _ I5' r5 (step x H5 y5)) fun _ s6 ⟨σ6, H6, I6, q6⟩ => ?_);refine wpAny_passesOwn hp (thn (hb _ s6 σ6 H6 _ I6 q6) fun f s7 q7 => ?_);have again : ∀ {σ7 : St} {H7 : Hp}, Inv X (pins ++ z26 fp s5.heap) σ7 H7 s7 → N σ7 H7 → ∃ m, m < n ∧ ∃ i σ' H', Inv X pins σ' H' s7 ∧ tn i s7.heap ∧ (∀ b ∈ fp, H' b = none) ∧ W i m σ' H' := fun {σ7 H7} I7 n7 => by
      obtain ⟨m', hm, w7⟩ := hN σ7 H7 n7;refine ⟨m', hm, i + 1, σ7, H7, I7.unpinned, T.keep _ _ _ st5 fun b hb o e => (I7.pin (b, o) (List.mem_append_right _ (List.mem_append_right _ (z0u hb e)))).1, fun b hb => ?_, w7⟩;obtain ⟨o, e, d⟩ := T.obj _ _ st5 b hb;exact (I7.pin (b, o) (List.mem_append_right _ (List.mem_append_right _ (z0u hb e)))).2.1
    cases f with
    | next => obtain ⟨σ7, H7, I7, n7⟩ := q7; exact again I7 n7
    | cont => obtain ⟨σ7, H7, I7, n7⟩ := q7; exact again I7 n7
    | brk => obtain ⟨σ7, H7, I7, q7⟩ := q7; exact ⟨σ7, H7, I7.unpinned, q7⟩
    | ret v => obtain ⟨x7, σ7, H7, I7, r7, q7⟩ := q7; exact ⟨x7, σ7, H7, I7.unpinned, r7, q7⟩
end
theorem jT {K : PySem.W.Frag} {a : Addr} {xs : List V} {g : TG} {tb : TS} {D : Ends} {σ : St} {H : Hp} (Pv : Nat → St → Hp → Prop) (h0 : Pv 0 σ H) (hl : ∀ i σ H, i ≤ xs.length → Pv i σ H → SqL K H a xs)
    (hs : ∀ i x σ H, xs[i]? = some x → Pv i σ H → g x σ H fun σ2 H2 => tb { D with nx := Pv (i + 1), ct := Pv (i + 1), bk := D.nx } σ2 H2) (hd : ∀ σ H, Pv xs.length σ H → D.nx σ H) :
    ∃ W : Nat → Nat → St → Hp → Prop, (∃ m, W 0 m σ H) ∧ ∀ i m σ H, W i m σ H →
      ((Itl K a).stop i H ∧ D.nx σ H) ∨ ((Itl K a).go i H ∧ ∃ N : St → Hp → Prop, (∀ σ' H', N σ' H' → ∃ m', m' < m ∧ W (i + 1) m' σ' H') ∧ ∀ x H', (Itl K a).yld i H x H' → g x σ H' fun σ2 H2 => tb { D with nx := N, ct := N, bk := D.nx } σ2 H2) := by
  refine ⟨fun i m σ H => m = xs.length - i ∧ i ≤ xs.length ∧ Pv i σ H, ⟨xs.length, by simp, Nat.zero_le _, h0⟩, ?_⟩;rintro i m σ H ⟨rfl, hi, p⟩;have q := hl i σ H hi p;by_cases hlt : i < xs.length
  · refine .inr ⟨⟨xs, xs[i], q, by simp [hlt]⟩, Pv (i + 1), fun σ' H' p' => ⟨xs.length - (i + 1), by omega, rfl, hlt, p'⟩, fun x H' y => ?_⟩;obtain ⟨e, y⟩ := y;subst e;exact hs i x σ _ (y xs q) p
  · have e : i = xs.length := by omega
    subst e;exact .inl ⟨⟨xs, q, Nat.le_refl _⟩, hd σ H p⟩
theorem z4r {K : PySem.W.Frag} {a : Addr} {xs : List V} {g : TG} {tb : TS} {D : Ends} {σ : St} {H : Hp} (Pv : Nat → St → Hp → Prop) (h0 : Pv 0 σ H) (hl : ∀ i σ H, i ≤ xs.length → Pv i σ H → SqT K H a xs)
    (hs : ∀ i x σ H, xs[i]? = some x → Pv i σ H → g x σ H fun σ2 H2 => tb { D with nx := Pv (i + 1), ct := Pv (i + 1), bk := D.nx } σ2 H2) (hd : ∀ σ H, Pv xs.length σ H → D.nx σ H) :
    ∃ W : Nat → Nat → St → Hp → Prop, (∃ m, W 0 m σ H) ∧ ∀ i m σ H, W i m σ H →
      ((Itt K a).stop i H ∧ D.nx σ H) ∨ ((Itt K a).go i H ∧ ∃ N : St → Hp → Prop, (∀ σ' H', N σ' H' → ∃ m', m' < m ∧ W (i + 1) m' σ' H') ∧ ∀ x H', (Itt K a).yld i H x H' → g x σ H' fun σ2 H2 => tb { D with nx := N, ct := N, bk := D.nx } σ2 H2) := by
  refine ⟨fun i m σ H => m = xs.length - i ∧ i ≤ xs.length ∧ Pv i σ H, ⟨xs.length, by simp, Nat.zero_le _, h0⟩, ?_⟩;rintro i m σ H ⟨rfl, hi, p⟩;have q := hl i σ H hi p;by_cases hlt : i < xs.length
  · refine .inr ⟨⟨xs, xs[i], q, by simp [hlt]⟩, Pv (i + 1), fun σ' H' p' => ⟨xs.length - (i + 1), by omega, rfl, hlt, p'⟩, fun x H' y => ?_⟩;obtain ⟨e, y⟩ := y;subst e;exact hs i x σ _ (y xs q) p
  · have e : i = xs.length := by omega
    subst e;exact .inl ⟨⟨xs, q, Nat.le_refl _⟩, hd σ H p⟩
theorem ki {lo : Int} {n : Nat} {g : TG} {tb : TS} {D : Ends} {σ : St} {H : Hp} (Pv : Nat → St → Hp → Prop) (h0 : Pv 0 σ H)
    (hs : ∀ i σ H, i < n → Pv i σ H → g (.int (lo + i)) σ H fun σ2 H2 => tb { D with nx := Pv (i + 1), ct := Pv (i + 1), bk := D.nx } σ2 H2) (hd : ∀ σ H, Pv n σ H → D.nx σ H) :
    ∃ W : Nat → Nat → St → Hp → Prop, (∃ m, W 0 m σ H) ∧ ∀ i m σ H, W i m σ H →
      ((Itr lo n).stop i H ∧ D.nx σ H) ∨ ((Itr lo n).go i H ∧ ∃ N : St → Hp → Prop, (∀ σ' H', N σ' H' → ∃ m', m' < m ∧ W (i + 1) m' σ' H') ∧ ∀ x H', (Itr lo n).yld i H x H' → g x σ H' fun σ2 H2 => tb { D with nx := N, ct := N, bk := D.nx } σ2 H2) := by
  refine ⟨fun i m σ H => m = n - i ∧ i ≤ n ∧ Pv i σ H, ⟨n, by simp, Nat.zero_le _, h0⟩, ?_⟩;rintro i m σ H ⟨rfl, hi, p⟩;by_cases hlt : i < n
  · refine .inr ⟨hlt, Pv (i + 1), fun σ' H' p' => ⟨n - (i + 1), by omega, rfl, hlt, p'⟩, fun x H' y => ?_⟩;obtain ⟨e, y⟩ := y;subst e y;exact hs i σ _ hlt p
  · have e : i = n := by omega
    subst e;exact .inl ⟨Nat.le_refl _, hd σ H p⟩
end L2
namespace L2
open PySem PySem.Spec PyProof.Rows
noncomputable abbrev R2 := V → V → Hp → VK → Prop
noncomputable def OpR (X : Cx) (f : Value → Value → Sem Value) (r : R2) : Prop :=
  ∀ (pins : List (Addr × Obj)) (s : Shared) (σ : St) (H : Hp) (x y : V) (v u : Value) (Q : VK), Inv X pins σ H s → RelV x v → RelV y u → r x y H Q →
    wpAny (model X.prog X.w) X.A (f v u) (EP X pins σ Q) X.xe s
noncomputable def UnR (X : Cx) (f : Value → Sem Value) (r : V → Hp → VK → Prop) : Prop :=
  ∀ (pins : List (Addr × Obj)) (s : Shared) (σ : St) (H : Hp) (x : V) (v : Value) (Q : VK), Inv X pins σ H s → RelV x v → r x H Q →
    wpAny (model X.prog X.w) X.A (f v) (EP X pins σ Q) X.xe s
noncomputable def kf (X : Cx) (f : Value) (r : List V → Hp → VK → Prop) : Prop :=
  ∀ (pins : List (Addr × Obj)) (s : Shared) (σ : St) (H : Hp) (xs : List V) (us : List Value) (Q : VK), Inv X pins σ H s → zP xs us → r xs H Q →
    wpAny (model X.prog X.w) X.A (call f us) (EP X pins σ Q) X.xe s
noncomputable def zbh (X : Cx) (r : V → Hp → (Bool → Hp → Prop) → Prop) : Prop :=
  ∀ (pins : List (Addr × Obj)) (s : Shared) (σ : St) (H : Hp) (x : V) (v : Value) (Q : Bool → Hp → Prop), Inv X pins σ H s → RelV x v → r x H Q →
    wpAny (model X.prog X.w) X.A (truthy v) (TP X pins σ Q) X.xe s
noncomputable def tOp (r : R2) (ta tb : TE) : TE := fun σ H Q => ta σ H fun x H1 => tb σ H1 fun y H2 => r x y H2 Q
noncomputable def tUn (r : V → Hp → VK → Prop) (ta : TE) : TE := fun σ H Q => ta σ H fun x H1 => r x H1 Q
noncomputable def rI (C : Int → Int → Prop) (g : Int → Int → V) : R2 := fun x y H Q => ∃ i j, x = .int i ∧ y = .int j ∧ C i j ∧ Q (g i j) H
noncomputable def rI0 (g : Int → Int → V) : R2 := fun x y H Q => ∃ i j, x = .int i ∧ y = .int j ∧ Q (g i j) H
noncomputable def rU (g : Int → V) : V → Hp → VK → Prop := fun x H Q => ∃ i, x = .int i ∧ Q (g i) H
section
variable {X : Cx} {a b c : Expr} {ta tb tc : TE} {pos : Pos}
theorem z9W (ha : PE X a ta) (hb : PE X b tb) {pins : List (Addr × Obj)} {s : Shared} {σ : St} {H : Hp} {R : V → V → Hp → Prop} (I : Inv X pins σ H s)
    (h : ta σ H fun x H1 => tb σ H1 fun y H2 => R x y H2) {Q : Value → Shared → Prop} {f : Value → Value → Sem Value}
    (hf : ∀ v u s2 x y H2, Inv X pins σ H2 s2 → RelV x v → RelV y u → R x y H2 → wpAny (model X.prog X.w) X.A (f v u) Q X.xe s2) :
    wpAny (model X.prog X.w) X.A (eval a X.env) (fun v s₁ => wpAny (model X.prog X.w) X.A (eval b X.env) (fun u s₂ => wpAny (model X.prog X.w) X.A (f v u) Q X.xe s₂) X.xe s₁) X.xe s := by
  refine thn (ha pins s σ H _ I h) fun v s1 ⟨x, H1, I1, r1, q1⟩ => ?_
  refine thn (hb pins s1 σ H1 _ I1 q1) fun u s2 ⟨y, H2, I2, r2, q2⟩ => ?_
  exact hf v u s2 x y H2 I2 r1 r2 q2
theorem zp {op : Operator} {r : R2} (ho : OpR X (binaryOp op) r) (ha : PE X a ta) (hb : PE X b tb) : PE X (.BinOp a op b pos) (tOp r ta tb) := by
  intro pins s σ H Q I h;exact wpAny_BinOp (z9W ha hb I h fun v u s2 x y H2 I2 rx ry q => ho pins s2 σ H2 x y v u Q I2 rx ry q)
theorem z3G {op : UnaryOp} {r : V → Hp → VK → Prop} (ho : UnR X (unaryOp op) r) (ha : PE X a ta) : PE X (.UnaryOp op a pos) (tUn r ta) := by
  intro pins s σ H Q I h;exact UnaryOp_ (thn (ha pins s σ H _ I h) fun v s1 ⟨x, H1, I1, r1, q1⟩ => ho pins s1 σ H1 x v Q I1 r1 q1)
theorem opI {f : Value → Value → Sem Value} {C : Int → Int → Prop} {g : Int → Int → Int}
    (rule : ∀ (i j : Int) (t u : Tok) (s : Shared) (Q : Value → Shared → Prop) (E : Value → Shared → Prop), C i j → Q (.int (g i j) s.toks) { s with toks := s.toks + 1 } → wpAny (model X.prog X.w) X.A (f (.int i t) (.int j u)) Q E s) :
    OpR X f (rI C fun i j => .int (g i j)) := by
  intro pins s σ H x y v u Q I rx ry h;obtain ⟨i, j, rfl, rfl, hc, q⟩ := h;obtain ⟨t, rfl⟩ := rx;obtain ⟨t', rfl⟩ := ry;exact rule i j t t' s _ _ hc ⟨.int (g i j), H, I.tok _, ⟨_, rfl⟩, q⟩
theorem zas {f : Value → Value → Sem Value} {g : Int → Int → Int}
    (rule : ∀ (i j : Int) (t u : Tok) (s : Shared) (Q : Value → Shared → Prop) (E : Value → Shared → Prop), Q (.int (g i j) s.toks) { s with toks := s.toks + 1 } → wpAny (model X.prog X.w) X.A (f (.int i t) (.int j u)) Q E s) :
    OpR X f (rI0 fun i j => .int (g i j)) := by
  intro pins s σ H x y v u Q I rx ry h;obtain ⟨i, j, rfl, rfl, q⟩ := h;obtain ⟨t, rfl⟩ := rx;obtain ⟨t', rfl⟩ := ry;exact rule i j t t' s _ _ ⟨.int (g i j), H, I.tok _, ⟨_, rfl⟩, q⟩
theorem za8 {f : Value → Value → Sem Value} {g : Int → Int → Bool}
    (rule : ∀ (i j : Int) (t u : Tok) (s : Shared) (Q : Value → Shared → Prop) (E : Value → Shared → Prop), Q (.bool (g i j)) s → wpAny (model X.prog X.w) X.A (f (.int i t) (.int j u)) Q E s) :
    OpR X f (rI0 fun i j => .bl (g i j)) := by
  intro pins s σ H x y v u Q I rx ry h;obtain ⟨i, j, rfl, rfl, q⟩ := h;obtain ⟨t, rfl⟩ := rx;obtain ⟨t', rfl⟩ := ry;exact rule i j t t' s _ _ ⟨.bl (g i j), H, I, rfl, q⟩
noncomputable def zbd (i j : Int) : Prop := 0 < j ∧ j < 1073741824
noncomputable def zal (i j : Int) : Prop := 0 ≤ j ∧ j ≤ 1000000 ∧ i.natAbs < 2 ^ 64
noncomputable def z9Z (i j : Int) : Prop := (-(2 ^ 64) < i ∧ i < 2 ^ 64) ∨ (-(2 ^ 64) < j ∧ j < 2 ^ 64)
theorem z9Z.ok {i j : Int} (h : z9Z i j) : IntMulOk i j := by
  rcases h with ⟨h1, h2⟩ | ⟨h1, h2⟩
  · exact .of_left (intBits_le_64 h1 h2)
  · exact .of_right (intBits_le_64 h1 h2)
theorem yp : OpR X (binaryOp .Add) (rI0 fun i j => .int (i + j)) := zas fun _ _ _ _ _ _ _ q => add_int q
theorem z2O : OpR X (binaryOp .Sub) (rI0 fun i j => .int (i - j)) := zas fun _ _ _ _ _ _ _ q => sub_int q
theorem z3c : OpR X (binaryOp .Mult) (rI z9Z fun i j => .int (i * j)) := opI fun _ _ _ _ _ _ _ hc q => mul_int q hc.ok
theorem jQ : OpR X (binaryOp .FloorDiv) (rI zbd fun i j => .int (i / j)) := opI fun i j _ _ _ _ _ hc q => by
  have h1 : (0 : Int) < j := hc.1;have h2 : j < 1073741824 := hc.2;exact floordiv_int (by omega) (by rw [Int.fdiv_eq_ediv_of_nonneg i (by omega)]; exact q) (.inl (PyProof.noPylong_small (by omega)))
theorem zS : OpR X (binaryOp .Mod) (rI (fun _ j => 0 < j) fun i j => .int (i % j)) := opI fun i j _ _ _ _ _ hc q => by
  have h1 : (0 : Int) < j := hc;exact mod_int' (by omega) (by rw [Int.fmod_eq_emod_of_nonneg i (by omega)]; exact q)
theorem z9w : OpR X (binaryOp .Pow) (rI zal fun i j => .int (i ^ j.toNat)) := opI fun _ _ _ _ _ _ _ hc q => pow_int_small hc.1 hc.2.1 hc.2.2 q
theorem unI {f : Value → Sem Value} {g : Int → Int}
    (rule : ∀ (i : Int) (t : Tok) (s : Shared) (Q : Value → Shared → Prop) (E : Value → Shared → Prop), Q (.int (g i) s.toks) { s with toks := s.toks + 1 } → wpAny (model X.prog X.w) X.A (f (.int i t)) Q E s) :
    UnR X f (rU fun i => .int (g i)) := by
  intro pins s σ H x v Q I rx h;obtain ⟨i, rfl, q⟩ := h;obtain ⟨t, rfl⟩ := rx;exact rule i t s _ _ ⟨.int (g i), H, I.tok _, ⟨_, rfl⟩, q⟩
theorem z1K : UnR X (unaryOp .USub) (rU fun i => .int (-i)) := unI fun _ _ _ _ _ q => neg_int q
end
noncomputable def zan : V → V → Bool
  | .non, .non => true | .non, .int _ => true | .int _, .non => true | .non, .bl _ => true | .bl _, .non => true | .non, .str _ => true | .str _, .non => true
  | .int _, .int _ => true | .bl _, .bl _ => true | .str _, .str _ => true | .byt _, .byt _ => true
  | .int _, .str _ => true | .str _, .int _ => true | .bl _, .str _ => true | .str _, .bl _ => true
  | _, _ => false
noncomputable def rEq : R2 := fun x y H Q => zan x y = true ∧ Q (.bl (decide (x = y))) H
noncomputable def rNe : R2 := fun x y H Q => zan x y = true ∧ Q (.bl (!decide (x = y))) H
theorem z6i {i j : Int} : decide (V.int i = V.int j) = (i == j) := by
  rw [Bool.eq_iff_iff];simp
theorem z8E {i j : Bool} : decide (V.bl i = V.bl j) = (i == j) := by
  rw [Bool.eq_iff_iff];simp
theorem z6w {i j : Str} : decide (V.str i = V.str j) = (i == j) := by
  rw [Bool.eq_iff_iff];simp
theorem z6j {i j : Array UInt8} : decide (V.byt i = V.byt j) = (i.toList == j.toList) := by
  rw [Bool.eq_iff_iff];cases i;cases j;simp
section
variable {X : Cx} {a b c : Expr} {ta tb tc : TE} {pos : Pos}
theorem j6 {pins : List (Addr × Obj)} {σ : St} {H : Hp} {s : Shared} {Q : VK} {k k' : Bool} (I : Inv X pins σ H s) (q : Q (.bl k) H) (e : k = k') : EP X pins σ Q (.bool k') s := by
  subst e;exact ⟨.bl k, H, I, rfl, q⟩
theorem zT : OpR X (compareOp .Eq) rEq := by
  intro pins s σ H x y v u Q I rx ry h;obtain ⟨hs, q⟩ := h;cases x with
  | non =>
    cases rx;cases y with
    | non => cases ry; exact PySem.EqNone.eq_none_none (j6 I q (by simp))
    | bl j => cases ry; exact PySem.EqNone.eq_none_bool (j6 I q (by simp))
    | int j => obtain ⟨t', rfl⟩ := ry; exact PySem.EqNone.eq_none_int (j6 I q (by simp))
    | str j => obtain ⟨t', rfl⟩ := ry; exact PySem.EqNone.eq_none_str (j6 I q (by simp))
    | _ => exact absurd (show false = true from hs) Bool.false_ne_true
  | bl i =>
    cases rx;cases y with
    | non => cases ry; exact PySem.EqNone.eq_bool_none (j6 I q (by simp))
    | bl j => cases ry; exact eq_bool (j6 I q z8E)
    | str j => obtain ⟨t', rfl⟩ := ry; exact PySem.EqMixed.eq_bool_str (j6 I q (by simp))
    | _ => exact absurd (show false = true from hs) Bool.false_ne_true
  | int i =>
    obtain ⟨t, rfl⟩ := rx;cases y with
    | non => cases ry; exact PySem.EqNone.eq_int_none (j6 I q (by simp))
    | int j => obtain ⟨t', rfl⟩ := ry; exact eq_int (j6 I q z6i)
    | str j => obtain ⟨t', rfl⟩ := ry; exact PySem.EqMixed.eq_int_str (j6 I q (by simp))
    | _ => exact absurd (show false = true from hs) Bool.false_ne_true
  | str i =>
    obtain ⟨t, rfl⟩ := rx;cases y with
    | non => cases ry; exact PySem.EqNone.eq_str_none (j6 I q (by simp))
    | bl j => cases ry; exact PySem.EqMixed.eq_str_bool (j6 I q (by simp))
    | int j => obtain ⟨t', rfl⟩ := ry; exact PySem.EqMixed.eq_str_int (j6 I q (by simp))
    | str j => obtain ⟨t', rfl⟩ := ry; exact eq_str (j6 I q z6w)
    | _ => exact absurd (show false = true from hs) Bool.false_ne_true
  | byt i =>
    obtain ⟨t, rfl⟩ := rx;cases y with
    | byt j => obtain ⟨t', rfl⟩ := ry; exact PySem.W.eq_bytes (j6 I q z6j)
    | _ => exact absurd (show false = true from hs) Bool.false_ne_true
  | _ => cases y <;> exact absurd (show false = true from hs) Bool.false_ne_true
theorem z16 : OpR X (compareOp .NotEq) rNe := by
  intro pins s σ H x y v u Q I rx ry h;obtain ⟨hs, q⟩ := h;cases x with
  | non =>
    cases rx;cases y with
    | non => cases ry; exact PySem.EqNone.ne_none_none (j6 I q (by simp))
    | bl j => cases ry; exact PySem.EqNone.ne_none_bool (j6 I q (by simp))
    | int j => obtain ⟨t', rfl⟩ := ry; exact PySem.EqNone.ne_none_int (j6 I q (by simp))
    | str j => obtain ⟨t', rfl⟩ := ry; exact PySem.EqNone.ne_none_str (j6 I q (by simp))
    | _ => exact absurd (show false = true from hs) Bool.false_ne_true
  | bl i =>
    cases rx;cases y with
    | non => cases ry; exact PySem.EqNone.ne_bool_none (j6 I q (by simp))
    | bl j => cases ry; exact ne_bool (j6 I q (congrArg not z8E))
    | str j => obtain ⟨t', rfl⟩ := ry; exact PySem.EqMixed.ne_bool_str (j6 I q (by simp))
    | _ => exact absurd (show false = true from hs) Bool.false_ne_true
  | int i =>
    obtain ⟨t, rfl⟩ := rx;cases y with
    | non => cases ry; exact PySem.EqNone.ne_int_none (j6 I q (by simp))
    | int j => obtain ⟨t', rfl⟩ := ry; exact ne_int (j6 I q (congrArg not z6i))
    | str j => obtain ⟨t', rfl⟩ := ry; exact PySem.EqMixed.ne_int_str (j6 I q (by simp))
    | _ => exact absurd (show false = true from hs) Bool.false_ne_true
  | str i =>
    obtain ⟨t, rfl⟩ := rx;cases y with
    | non => cases ry; exact PySem.EqNone.ne_str_none (j6 I q (by simp))
    | bl j => cases ry; exact PySem.EqMixed.ne_str_bool (j6 I q (by simp))
    | int j => obtain ⟨t', rfl⟩ := ry; exact PySem.EqMixed.ne_str_int (j6 I q (by simp))
    | str j => obtain ⟨t', rfl⟩ := ry; exact ne_str (j6 I q (congrArg not z6w))
    | _ => exact absurd (show false = true from hs) Bool.false_ne_true
  | byt i =>
    obtain ⟨t, rfl⟩ := rx;cases y with
    | byt j => obtain ⟨t', rfl⟩ := ry; exact PySem.W.ne_bytes (j6 I q (congrArg not z6j))
    | _ => exact absurd (show false = true from hs) Bool.false_ne_true
  | _ => cases y <;> exact absurd (show false = true from hs) Bool.false_ne_true
theorem z40 : OpR X (compareOp .Lt) (rI0 fun i j => .bl (decide (i < j))) := za8 fun _ _ _ _ _ _ _ q => lt_int q
theorem z9u : OpR X (compareOp .LtE) (rI0 fun i j => .bl (decide (i ≤ j))) := za8 fun _ _ _ _ _ _ _ q => le_int q
theorem z4W : OpR X (compareOp .Gt) (rI0 fun i j => .bl (decide (j < i))) := za8 fun _ _ _ _ _ _ _ q => gt_int q
theorem zac : OpR X (compareOp .Is) (fun x y H Q => y = .non ∧ Q (.bl (decide (x = .non))) H) := by
  intro pins s σ H x y v u Q I rx ry h;obtain ⟨rfl, q⟩ := h;cases ry;refine is_none_gen (j6 I q ?_);cases x <;> first
    | (cases rx; rfl)
    | (obtain ⟨t, rfl⟩ := rx; rfl)
theorem z95 : OpR X (compareOp .IsNot) (fun x y H Q => y = .non ∧ Q (.bl (!decide (x = .non))) H) := by
  intro pins s σ H x y v u Q I rx ry h;obtain ⟨rfl, q⟩ := h;cases ry;refine isnot_none_gen (j6 I q ?_);cases x <;> first
    | (cases rx; rfl)
    | (obtain ⟨t, rfl⟩ := rx; rfl)
theorem zC (b : Expr) {op : CmpOp} (h : op ≠ .In := by decide) (h2 : op ≠ .NotIn := by decide) : behindInMarks op b = false := by
  have e1 : (op == CmpOp.In) = false := by cases op <;> first | rfl | exact absurd rfl h
  have e2 : (op == CmpOp.NotIn) = false := by cases op <;> first | rfl | exact absurd rfl h2
  cases b <;> simp [behindInMarks, e1, e2]
theorem kP {op : CmpOp} {r : R2} (ho : OpR X (compareOp op) r) (ha : PE X a ta) (hb : PE X b tb) (hm : behindInMarks op b = false) : PE X (.Compare a [op] [b] pos) (tOp r ta tb) := by
  intro pins s σ H Q I h;exact wpAny_Compare1 (z9W ha hb I h fun v u s2 x y H2 I2 rx ry q => ho pins s2 σ H2 x y v u Q I2 rx ry q) hm
noncomputable def zaN (t : TE) : TT := fun σ H Q => t σ H fun x H' => ∃ k, x = .bl k ∧ Q k H'
theorem zw {op : CmpOp} {r : R2} (ho : OpR X (compareOp op) r) (ha : PE X a ta) (hb : PE X b tb) (hm : behindInMarks op b = false) : PT X (.Compare a [op] [b] pos) (zaN (tOp r ta tb)) := by
  intro pins s σ H Q I h;refine wpAny_isTrue_Compare1 (thn (ha pins s σ H _ I h) fun v s1 ⟨x, H1, I1, r1, q1⟩ => thn (hb pins s1 σ H1 _ I1 q1) fun u s2 ⟨y, H2, I2, r2, q2⟩ =>
    thn (ho pins s2 σ H2 x y v u _ I2 r1 r2 q2) fun c s3 ⟨z, H3, I3, r3, k, e, q3⟩ => ?_) hm
  subst e;cases r3;exact wpAny_truthy_bool ⟨H3, I3, q3⟩
noncomputable def zaM (K : PySem.W.Frag) (x : V) (H : Hp) (k : Bool) : Prop :=
  match x with
  | .non => k = false
  | .bl b => k = b
  | .int i => k = (i != 0)
  | .str y => y.length ≤ sizeLine ∧ k = ((y.length : Int) != 0)
  | .byt y => y.size ≤ sizeLine ∧ k = ((y.size : Int) != 0)
  | .ref p => (∃ xs, SqL K H p xs ∧ k = !xs.isEmpty) ∨ (∃ xs, SqT K H p xs ∧ k = !xs.isEmpty) ∨ ∃ kvs, H p = some (.dK kvs) ∧ k = !kvs.isEmpty
  | _ => False
theorem z5A {κ : Type} {kvs : List (κ × V)} {vs : List (κ × Value)} (r : KV kvs vs) : (!vs.isEmpty) = !kvs.isEmpty := by
  cases r <;> rfl
theorem z2L {xs : List V} {its : List Value} (r : zP xs its) : (!its.toArray.isEmpty) = !xs.isEmpty := by
  cases r <;> simp
theorem z1f : (sizeLine : Nat) < 2 ^ 63 := by rw [sizeLine_eq]; decide
theorem z9x : zbh X (fun x H Q => ∃ k, zaM X.K x H k ∧ Q k H) := by
  intro pins s σ H x v Q I rx h;obtain ⟨k, e, q⟩ := h;have hl := z1f;have hs : sizeLine = 16777216 := sizeLine_eq;cases x with
  | non =>
    cases rx;have e' : k = false := e;subst e';exact truthy_none ⟨H, I, q⟩
  | bl b =>
    cases rx;have e' : k = b := e;subst e';exact wpAny_truthy_bool ⟨H, I, q⟩
  | int i =>
    obtain ⟨t, rfl⟩ := rx;have e' : k = (i != 0) := e;subst e';exact PySem.P.truthy_int ⟨H, I, q⟩
  | str y =>
    obtain ⟨t, rfl⟩ := rx;obtain ⟨hy, e'⟩ : y.length ≤ sizeLine ∧ k = ((y.length : Int) != 0) := e;subst e';exact PySem.P.truthy_str (by omega) ⟨H, I.tok _, q⟩
  | byt y =>
    obtain ⟨t, rfl⟩ := rx;obtain ⟨hy, e'⟩ : y.size ≤ sizeLine ∧ k = ((y.size : Int) != 0) := e;subst e';exact PySem.W.truthy_bytes (by omega) ⟨H, I.tok _, q⟩
  | ref p =>
    cases rx;have e' : (∃ xs, SqL X.K H p xs ∧ k = !xs.isEmpty) ∨ (∃ xs, SqT X.K H p xs ∧ k = !xs.isEmpty) ∨ ∃ kvs, H p = some (.dK kvs) ∧ k = !kvs.isEmpty := e
    rcases e' with ⟨xs, hx, e'⟩ | ⟨xs, hx, e'⟩ | ⟨kvs, hx, e'⟩
    · subst e';obtain ⟨its, r, pl, hz⟩ := I.list hx;have hlen := r.length;exact wpAny_truthy_list pl.isList (by simp only [List.size_toArray]; omega) ⟨H, I.tok _, by rw [z2L r]; exact q⟩
    · subst e';obtain ⟨its, r, pl, hz⟩ := I.tuple hx;have hlen := r.length;exact truthy_tuple pl (by simp only [List.size_toArray]; omega) ⟨H, I.tok _, by rw [z2L r]; exact q⟩
    · subst e';obtain ⟨hz, hS, vs, r, m⟩ : kvs.length ≤ sizeLine ∧ (p == sysModules) = false ∧ ∃ vs, KV kvs vs ∧ s.heap.DictOf (jh X.prog X.w) p vs := I.hok p _ hx
      have hlen : kvs.length = vs.length := Paired.length r;exact wpAny_truthy_dict hS m (by omega) ⟨H, I.tok _, by rw [z5A r]; exact q⟩
  | _ => exact (show False from e).elim
theorem z3g (ha : PE X a ta) (he : ∀ whole, isTrue a X.env whole = (do let v ← whole; standAt a.pos; holding [v] (truthy v))) :
    PT X a (fun σ H Q => ta σ H fun x H' => ∃ k, zaM X.K x H' k ∧ Q k H') := by
  intro pins s σ H Q I h;exact isTrue_plain (thn (ha pins s σ H _ I h) fun v s1 ⟨x, H1, I1, r1, q1⟩ => z9x pins s1 σ H1 x v Q I1 r1 q1) (he _)
theorem zi : OpR X (binaryOp .Add) (fun x y H Q => ∃ i j, x = .str i ∧ y = .str j ∧ i.length + j.length ≤ sizeLine ∧ Q (.str (i ++ j)) H) := by
  intro pins s σ H x y v u Q I rx ry h;obtain ⟨i, j, rfl, rfl, hz, q⟩ := h;obtain ⟨t, rfl⟩ := rx;obtain ⟨t', rfl⟩ := ry;exact add_str (fun t' tk => ⟨.str (i ++ j), H, I.tok _, ⟨_, rfl⟩, q⟩) hz
theorem vals1 {x : V} {us : List Value} (r : zP [x] us) : ∃ u, us = [u] ∧ RelV x u := by
  cases r with
  | cons r1 r2 => cases r2; exact ⟨_, rfl, r1⟩
theorem vals2 {x y : V} {us : List Value} (r : zP [x, y] us) : ∃ u w', us = [u, w'] ∧ RelV x u ∧ RelV y w' := by
  cases r with
  | cons r1 r2 =>
    cases r2 with
    | cons r3 r4 => cases r4; exact ⟨_, _, rfl, r1, r3⟩
theorem z7q (hc : X.calm = true) : kf X (.builtin "max") (fun xs H Q => ∃ i j, xs = [.int i, .int j] ∧ Q (.int (if j > i then j else i)) H) := by
  intro pins s σ H xs us Q I r h;obtain ⟨i, j, rfl, q⟩ := h;obtain ⟨u, w', rfl, ⟨t, rfl⟩, ⟨t', rfl⟩⟩ := vals2 r;refine max_two_ints (I.ok.hd hc) fun h' tk k => ⟨_, H, I.kept k, ?_, q⟩
  by_cases hj : j > i
  · rw [if_pos hj, if_pos hj]; exact ⟨_, rfl⟩
  · rw [if_neg hj, if_neg hj]; exact ⟨_, rfl⟩
theorem z6T (hc : X.calm = true) : kf X (.builtin "min") (fun xs H Q => ∃ i j, xs = [.int i, .int j] ∧ Q (.int (if j < i then j else i)) H) := by
  intro pins s σ H xs us Q I r h;obtain ⟨i, j, rfl, q⟩ := h;obtain ⟨u, w', rfl, ⟨t, rfl⟩, ⟨t', rfl⟩⟩ := vals2 r;refine min_two_ints (I.ok.hd hc) fun h' tk k => ⟨_, H, I.kept k, ?_, q⟩
  by_cases hj : j < i
  · rw [if_pos hj, if_pos hj]; exact ⟨_, rfl⟩
  · rw [if_neg hj, if_neg hj]; exact ⟨_, rfl⟩
theorem z3H : kf X (.type "int") (fun xs H Q => (∃ i, xs = [.int i] ∧ Q (.int i) H) ∨ ∃ k, xs = [.bl k] ∧ Q (.int (if k then 1 else 0)) H) := by
  intro pins s σ H xs us Q I r h;rcases h with ⟨i, rfl, q⟩ | ⟨k, rfl, q⟩
  · obtain ⟨u, rfl, t, rfl⟩ := vals1 r;exact call_int_int ⟨.int i, H, I, ⟨_, rfl⟩, q⟩
  · obtain ⟨u, rfl, r1⟩ := vals1 r;cases r1;exact call_int_bool ⟨.int (if k then 1 else 0), H, I.tok _, ⟨_, rfl⟩, q⟩
theorem z4H : kf X (.type "str") (fun xs H Q => ∃ i, xs = [.int i] ∧ i.natAbs.log2 < 1920 ∧ Q (.str (toString i)) H) := by
  intro pins s σ H xs us Q I r h;obtain ⟨i, rfl, hz, q⟩ := h;obtain ⟨u, rfl, t, rfl⟩ := vals1 r;exact PySem.P.str_of_int hz ⟨.str _, H, I.tok _, ⟨_, rfl⟩, q⟩
end
end L2
namespace L2
open PySem PySem.Spec PyProof.Rows
structure ObjM (h : Heap) (x dx C : Addr) (mA : Str → Option Value) : Prop where
  obj : h.get? x = some (PySem.W.instObj C dx)
  ns : h.Ns1 dx mA
  ne : dx ≠ x
theorem z7r {h : Heap} {dx : Addr} {mA : Str → Option Value} (n : h.Ns1 dx mA) : ∃ od, h.get? dx = some od ∧ ∀ name, PySem.W.lookIn name od = some (mA name) := by
  obtain ⟨o, es, ep, ho, hd, hk, _, hm⟩ := n;refine ⟨o, ho, fun name => ?_⟩;have e := hm name;unfold nsFind findBy at e;rw [← Array.find?_toList] at e;unfold PySem.W.lookIn;rw [hd];dsimp only;split
  · rename_i y q;rw [q] at e;exact congrArg some e
  · rename_i q;rw [q] at e;have a : es.toList.any (·.refKey) = false := by
      rw [List.any_eq_false];intro y hy;obtain ⟨z, t, hkey⟩ := hk y (Array.mem_toList_iff.mp hy);simp [DictEntry.refKey, hkey]
    have a' : ¬ es.toList.any (·.refKey) = true := by rw [a]; exact Bool.false_ne_true
    rw [if_neg a'];exact congrArg some e
theorem ObjM.look {h : Heap} {x dx C : Addr} {mA : Str → Option Value} (I : ObjM h x dx C mA) : ∃ od, PySem.W.InstAt h x (PySem.W.instObj C dx) C (some od) ∧ ∀ name, PySem.W.lookIn name od = some (mA name) :=
  let ⟨od, ho, hl⟩ := z7r I.ns
  ⟨od, ⟨I.obj, rfl, rfl, ho⟩, hl⟩
theorem z28.some_of {v : V} {o : Option Value} (r : z28 (some v) o) : ∃ u, o = some u ∧ RelV v u := by
  cases o with
  | none => exact (show False from r).elim
  | some u => exact ⟨u, rfl, r⟩
section
variable {P : Program} {w : World} {H H' : Hp} {h h' : Heap} {a C dx : Addr} {fs fs' : List (Str × V)}
theorem z9i (hok : HOk P w H h) (e : H a = some (.ins C dx fs)) : ∃ mA, ObjM h a dx C mA ∧ (∀ f, z28 (fs.lookup f) (mA f)) ∧ PySem.Within mA (fs.map (·.1)) ∧ fs.length ≤ 1000 ∧ H dx = some (.own a) := by
  obtain ⟨d, z, ne, ob, mA, n, r, q⟩ := (show jy P w H h a (.ins C dx fs) from hok a _ e);exact ⟨mA, ⟨ob, n, ne⟩, r, q, z, d⟩
end
structure Cls (K : PySem.W.Frag) (C : Addr) : Prop where
  pg : PySem.W.plainGet K C Str.empty = true
  hd : PySem.W.hasDictIn K C = true
  po : PySem.W.plainOver K C = true
  sa : PySem.W.findIn K (.ref C) "__setattr__" = some (some (.builtin "object.__setattr__"))
theorem Cls.get {K : PySem.W.Frag} {C : Addr} (c : Cls K C) (f : Str) : PySem.W.plainGet K C f = true := c.pg
structure Con (K : PySem.W.Frag) (C : Addr) (f : Str) (v : V) (u : Value) : Prop where
  at_ : PySem.W.findIn K (.ref C) f = some (some u)
  rel : RelV v u
  get : PySem.W.specialIn K u "__get__" = some none
  cp : PySem.W.copiedNames.contains f = false
structure Meth (K : PySem.W.Frag) (C : Addr) (m : Str) (f : Addr) : Prop where
  at_ : PySem.W.findIn K (.ref C) m = some (some (.ref f))
  fn : PySem.W.isFn K (.ref f) = true
  kp : PySem.W.keepIn K (.ref f) = true
section
variable {X : Cx} {pins : List (Addr × Obj)} {σ : St} {H : Hp} {s : Shared} {A : Around} {E : Value → Shared → Prop} {Q : Value → Shared → Prop} {c : Value} {b : Bool}
inductive TyOf (K : PySem.W.Frag) (H : Hp) : V → Value → Prop where
  | non : TyOf K H .non (.type "NoneType")
  | bl (x : Bool) : TyOf K H (.bl x) (.type "bool")
  | int (i : Int) : TyOf K H (.int i) (.type "int")
  | str (x : Str) : TyOf K H (.str x) (.type "str")
  | flt (x : UInt64) : TyOf K H (.flt x) (.type "float")
  | lst {a : Addr} {xs : List V} (e : H a = some (.lst xs)) : TyOf K H (.ref a) (.type "list")
  | frz {a : Addr} {o : Obj} {xs : List V} (e : H a = some (.frz o (.lst xs))) : TyOf K H (.ref a) (.type "list")
  | tup {a : Addr} {xs : List V} (e : H a = some (.tup xs)) : TyOf K H (.ref a) (.type "tuple")
  | dK {a : Addr} {kvs : List (Key × V)} (e : H a = some (.dK kvs)) : TyOf K H (.ref a) (.type "dict")
  | dT {a : Addr} {kvs : List (List Key × V)} (e : H a = some (.dT kvs)) : TyOf K H (.ref a) (.type "dict")
  | ins {a C dx : Addr} {fs : List (Str × V)} (e : H a = some (.ins C dx fs)) (cl : Cls K C) (ha : PySem.W.findIn K (.ref C) "__class__" = some (some (.builtin "object.__class__")))
      (hn : PySem.W.specialIn K (.builtin "object.__class__") "__get__" = some (some (.builtin "getset_descriptor.__get__"))) (htk : PySem.W.takesIn K (.builtin "object.__class__") = some true)
      (hm : PySem.W.mroIn K C (.type "object") = some true) : TyOf K H (.ref a) (.ref C)
theorem z6S {x : V} {u t : Value} (I : Inv X pins σ H s) (rx : RelV x u) (ty : TyOf X.K H x t) (e : PySem.W.kitOne X.K t c = some b) (h : ∀ tk, Q (.bool b) { s with toks := tk }) :
    wpAny (model X.prog X.w) A (call (.builtin "isinstance") [u, c]) Q E s := by
  cases ty with
  | non => cases (show u = Value.none from rx); exact PySem.W.kia_one PySem.W.kitx_none I.kIn True.intro e (fun z => nomatch z) h
  | bl y => cases (show u = Value.bool y from rx); exact PySem.W.kia_one PySem.W.kitx_bool I.kIn True.intro e (fun z => nomatch z) h
  | int i => obtain ⟨t, q⟩ := (show ∃ t, u = Value.int i t from rx); cases q; exact PySem.W.kia_one PySem.W.kitx_int I.kIn True.intro e (fun z => nomatch z) h
  | str y => obtain ⟨t, q⟩ := (show ∃ t, u = Value.str y t from rx); cases q; exact PySem.W.kia_one PySem.W.kitx_str I.kIn True.intro e (fun z => nomatch z) h
  | flt y => obtain ⟨t, q⟩ := (show ∃ t, u = Value.float y t from rx); cases q; exact PySem.W.kia_one PySem.W.kitx_float I.kIn True.intro e (fun z => nomatch z) h
  | @lst a xs ea =>
    cases (show u = Value.ref a from rx);obtain ⟨_, _, n, _, h1⟩ := (show jy X.prog X.w H s.heap a (.lst xs) from I.hok a _ ea);exact PySem.W.kia_one PySem.W.kitx_list I.kIn ⟨_, h1, rfl⟩ e (fun z => nomatch z) h
  | @frz a ob xs ea =>
    cases (show u = Value.ref a from rx);obtain ⟨_, _, _, n, _, h1⟩ := (show jy X.prog X.w H s.heap a (.frz ob (.lst xs)) from I.hok a _ ea);exact PySem.W.kia_one PySem.W.kitx_list I.kIn ⟨_, h1, rfl⟩ e (fun z => nomatch z) h
  | @tup a xs ea =>
    cases (show u = Value.ref a from rx);obtain ⟨_, _, _, p⟩ := (show jy X.prog X.w H s.heap a (.tup xs) from I.hok a _ ea);obtain ⟨o, h1, h2, _⟩ := p;exact PySem.W.kia_one PySem.W.kitx_tuple I.kIn ⟨o, h1, h2⟩ e (fun z => nomatch z) h
  | @dK a kvs ea =>
    cases (show u = Value.ref a from rx);obtain ⟨_, _, vs, _, p⟩ := (show jy X.prog X.w H s.heap a (.dK kvs) from I.hok a _ ea);obtain ⟨o, es, ep, h1, h2, _⟩ := p;exact PySem.W.kia_one PySem.W.kitx_dict I.kIn ⟨o, h1, h2.1⟩ e (fun z => nomatch z) h
  | @dT a kvs ea =>
    cases (show u = Value.ref a from rx);obtain ⟨_, _, xs, _, o, es, ep, h1, h2, _⟩ := (show jy X.prog X.w H s.heap a (.dT kvs) from I.hok a _ ea);exact PySem.W.kia_one PySem.W.kitx_dict I.kIn ⟨o, h1, h2.1⟩ e (fun z => nomatch z) h
  | @ins a C dx fs ea cl ha hn htk hm =>
    cases (show u = Value.ref a from rx);obtain ⟨mA, O, _⟩ := z9i I.hok ea;obtain ⟨od, J, _⟩ := O.look;exact PySem.W.kia_one (PySem.W.kitx_own (cl.get _) cl.hd ha hn htk hm) I.kIn J e (fun z => nomatch z) h
end
end L2
namespace L2
open PySem PySem.Spec PyProof.Rows
structure Room (k : Nat) (A : Around) : Prop where
  hd : A.handled = none
  dp : A.depth + 3 * k + 5 < recursionLimit
  un : A.units + 16 * k + 200 < cLine
theorem Room.mono {j k : Nat} {A : Around} (r : Room k A) (h : j ≤ k) : Room j A := ⟨r.hd, by have := r.dp; omega, by have := r.un; omega⟩
theorem Room.deeper {k : Nat} {A : Around} (r : Room (k + 1) A) (env : Env) : Room k (A.deeper env) :=
  ⟨r.hd, by have := r.dp; show A.depth + 1 + 3 * k + 5 < _; omega, by have := r.un; show A.units + 3 + 16 * k + 200 < _; omega⟩
theorem Room.depth {k : Nat} {A : Around} (r : Room k A) : A.depth < recursionLimit := by have := r.dp; omega
theorem Room.units {k : Nat} {A : Around} (r : Room k A) : A.units + 64 < cLine := by have := r.un; omega
noncomputable def zbj : TA := fun _ H Q => Q [] H
noncomputable def z0O (ta : TE) (tr : TA) : TA := fun σ H Q => ta σ H fun x H1 => tr σ H1 fun xs H2 => Q (x :: xs) H2
section
variable {X : Cx} {e : Expr} {es : List Expr} {te : TE} {t : TA} {pos : Pos}
theorem ze : PA X [] zbj := fun _ _ _ _ H Q I h => Calls.spliced_nil ⟨[], H, I, .nil, h⟩
theorem yW (ha : PE X e te) (hr : PA X es t) (hs : starEach (e :: es) X.env = (false, eval e X.env) :: starEach es X.env := by rfl) : PA X (e :: es) (z0O te t) := by
  intro pos pins s σ H Q I h;rw [hs]
  show wpAny _ _ (spliced ((false, eval e X.env) :: backTo pos (starEach es X.env))) _ _ s
  refine Calls.spliced_cons (thn (ha pins s σ H _ I h) fun u s1 ⟨x, H1, I1, r1, q1⟩ => ?_);exact thn (hr pos pins s1 σ H1 _ I1 q1) fun us s2 ⟨xs, H2, I2, r2, q2⟩ => ⟨x :: xs, H2, I2, .cons r1 r2, q2⟩
noncomputable def zb2 (t : TA) : TE := fun σ H Q => t σ H fun xs H1 => xs.length ≤ sizeLine ∧ ∀ p, H1 p = none → Q (.ref p) (upd H1 p (.tup xs))
noncomputable def zb6 (t : TA) : TE := fun σ H Q => t σ H fun xs H1 => xs.length ≤ sizeLine ∧ ∀ p, H1 p = none → Q (.ref p) (upd H1 p (.lst xs))
theorem zK {x1} (h : PA X es t) : PE X (.Tuple es x1 pos) (zb2 t) := by
  intro pins s σ H Q I hq;refine wpAny_Tuple_spliced (thn (h pos pins s σ H _ I hq) fun us s1 ⟨xs, H1, I1, r, z, q⟩ => ⟨by rw [← r.length]; exact z, ?_⟩);have hf : H1 s1.heap.objs.size = none := I1.hok.fresh (Nat.le_refl _);refine ⟨.ref s1.heap.objs.size, upd H1 s1.heap.objs.size (.tup xs), I1.laid (t' := s1.toks) (fun b u e => Heap.get?_push_of_some _ e) (Nat.le_refl _) ?_, rfl, q _ hf⟩;exact ⟨z, us, r, ⟨_, Heap.get?_push_size _ rfl, rfl, _, rfl⟩⟩
theorem zI (h : PA X es t) : PE X (.List es pos) (zb6 t) := by
  intro pins s σ H Q I hq;refine wpAny_List_spliced (thn (h pos pins s σ H _ I hq) fun us s1 ⟨xs, H1, I1, r, z, q⟩ => ⟨by rw [← r.length]; exact z, ?_⟩);have hf : H1 s1.heap.objs.size = none := I1.hok.fresh (Nat.le_refl _);refine ⟨.ref s1.heap.objs.size, upd H1 s1.heap.objs.size (.lst xs), I1.laid (t' := s1.toks) (fun b u e => Heap.get?_push_of_some _ e) (Nat.le_refl _) ?_, rfl, q _ hf⟩;exact ⟨z, us, 0, r, Heap.get?_push_size _ rfl⟩
end
noncomputable abbrev Sp := List V → Hp → VK → XK → Prop
noncomputable abbrev CXT := List Env → Hp → Shared → XK → Value → Shared → Prop
structure Env0 (P : Program) (w : World) (K : PySem.W.Frag) (mg : Str → Option Value) (base : Heap) (A : Around) (outer : List Env) (s : Shared) (H : Hp) : Prop where
  frames : A.frames = some outer
  mod : Mod K mg base
  bs : ∀ b o, base.get? b = some o → s.heap.get? b = some o ∧ H b = none
  bsz : base.objs.size ≤ s.heap.objs.size
  funs : s.heap.FunFrames base outer
  frf : ∀ b ∈ frs outer, H b = none
  hok : HOk P w H s.heap
  bare : AllBare s.gens
noncomputable def CE (outer : List Env) (P : Program) (w : World) (H : Hp) (s : Shared) (Q : VK) (u : Value) (s' : Shared) : Prop :=
  ∃ v H', s'.os = s.os ∧ AllBare s'.gens ∧ Un (frs outer) [] H H' s.heap s'.heap ∧ HOk P w H' s'.heap ∧ RelV v u ∧ Q v H'
noncomputable def CR (CX : CXT) (outer : List Env) (P : Program) (w : World) (H : Hp) (s : Shared) (Q : VK) (E : XK) (r : Result) (s' : Shared) : Prop :=
  match r with
  | .ok (.ret u) => CE outer P w H s Q u s'
  | .ok _ => False
  | .error e => CX outer H s E e s'
structure FnOk (P : Program) (w : World) (K : PySem.W.Frag) (mg : Str → Option Value) (base : Heap) (CX : CXT) (k : Nat) (f : Addr) (fd : FuncData) (ps : List Str) (sp : Sp) : Prop where
  len : ∀ vs H Q E, sp vs H Q E → vs.length = ps.length
  run : ∀ (A : Around) (outer : List Env) (s : Shared) (H : Hp) (args : Args) (us : List Value) (vs : List V) (Q : VK) (E : XK), Room k A → Env0 P w K mg base A outer s H → BindsTo s fd args (ps.zip us) → zP vs us → sp vs H Q E →
    codeAny (model P w) A (.call (.ref f) args) (CR CX outer P w H s Q E) s
section
variable {X : Cx} {pins : List (Addr × Obj)} {σ : St} {H : Hp} {s s' : Shared}
theorem Inv.env0 (I : Inv X pins σ H s) : Env0 X.prog X.w X.K X.mg X.base X.A X.stack s H :=
  ⟨I.ok.frames, I.ok.mod, I.bs, Nat.le_trans I.ok.bsz I.sz, I.stack, I.stkFree, I.hok, I.bare⟩
theorem Inv.after {Q : VK} {u : Value} (I : Inv X pins σ H s) (h : CE X.stack X.prog X.w H s Q u s') : EP X pins σ Q u s' := by
  obtain ⟨v, H', os, bare, un, hok, r, q⟩ := h;obtain ⟨hh, g, d, t, os'⟩ := s';obtain rfl : os' = s.os := os;exact ⟨v, H', I.call (h' := hh) (g' := g) (d' := d) (t' := t) (ch := []) un hok bare (fun b z => absurd z (by simp)), r, q⟩
end
noncomputable def z9s (sp : Sp) (dvs : List V) (E : XK) (t : TA) : TE := fun σ H Q => t σ H fun vs H1 => sp (vs ++ dvs) H1 Q E
noncomputable def Binds (K : PySem.W.Frag) (fd : FuncData) (ps : List Str) (ds : List Value) : Prop :=
  ∀ (s : Shared) (us : List Value), K.In s.heap → (us ++ ds).length = ps.length → BindsTo s fd ⟨us, []⟩ (ps.zip (us ++ ds))
theorem Binds.all {K : PySem.W.Frag} {fd : FuncData} {ps : List Str} (h : ∀ us : List Value, us.length = ps.length → bindArgs fd ⟨us, []⟩ = pure (ps.zip us)) : Binds K fd ps [] := fun s us _ hl => by
  rw [List.append_nil] at hl ⊢;exact .of_eq (h us hl)
noncomputable def z3i (CX : CXT) (X : Cx) (E : XK) : Prop := ∀ (pins : List (Addr × Obj)) (σ : St) (H : Hp) (s : Shared) (e : Value) (s' : Shared), Inv X pins σ H s → CX X.stack H s E e s' → X.xe e s'
section
variable {X : Cx} {CX : CXT} {k : Nat} {f C : Addr} {fd : FuncData} {ps : List Str} {sp : Sp} {dvs : List V} {ds : List Value} {E : XK} {x m : Str} {p pos apos : Pos} {e o : Expr} {es : List Expr} {ta : TE} {t : TA}
theorem z9y {pins : List (Addr × Obj)} {σ : St} {H : Hp} {s : Shared} {Q : VK} {us : List Value} {vs : List V} (F : FnOk X.prog X.w X.K X.mg X.base CX k f fd ps sp) (hr : Room k X.A) (hb : Binds X.K fd ps ds) (hd : zP dvs ds) (hx : z3i CX X E)
    (I : Inv X pins σ H s) (r : zP vs us) (h : sp (vs ++ dvs) H Q E) : wpAny (model X.prog X.w) X.A (call (.ref f) us) (EP X pins σ Q) X.xe s := by
  have r2 : zP (vs ++ dvs) (us ++ ds) := r.append hd;have hl : (us ++ ds).length = ps.length := by rw [← r2.length]; exact F.len _ _ _ _ h
  refine wpAny_call (codeAny_mono (F.run X.A X.stack s H ⟨us, []⟩ (us ++ ds) (vs ++ dvs) Q E hr I.env0 (hb s us I.kIn hl) r2 h) fun r s' hq => ?_);cases r with
  | error e => exact hx pins σ H s e s' I hq
  | ok fl =>
    cases fl with
    | ret u => exact I.after hq
    | next => exact False.elim hq
    | brk => exact False.elim hq
    | cont => exact False.elim hq
theorem z8N (F : FnOk X.prog X.w X.K X.mg X.base CX k f fd ps sp) (hr : Room k X.A) (hg : Gl X x) (hm : X.mg x = some (.ref f)) (hk : PySem.W.keepIn X.K (.ref f) = true) (hb : Binds X.K fd ps ds) (hd : zP dvs ds) (hx : z3i CX X E)
    (ha : PA X (e :: es) t) (hdb : (x == ("__debug__" : Str)) = false := by decide) (he : starEach (e :: es) X.env = (false, eval e X.env) :: starEach es X.env := by rfl) (hpl : (backTo pos (starEach es X.env)).any (·.1) = false := by rfl) :
    PE X (.Call (.Name x p) (e :: es) [] pos) (z9s sp dvs E t) := by
  intro pins s σ H Q I h;refine wpAny_Call_Name_kw (z4q I hg hm ?_ hdb);refine PySem.W.callWith_K (h₀ := X.base) I.ok.mod.kin hk (thn (ha pos pins s σ H _ I h) fun us s1 ⟨vs, H1, I1, r, q⟩ => ⟨I1.kIn, ?_⟩) he hpl;exact z9y F hr hb hd hx I1 r q
structure Mk (K : PySem.W.Frag) (C f : Addr) : Prop where
  makes : PySem.W.makesIn K C = true
  init : PySem.W.findIn K (.ref C) "__init__" = some (some (.ref f))
  fn : PySem.W.isFn K (.ref f) = true
  kp : PySem.W.keepIn K (.ref C) = true
end
section
variable {X : Cx} {CX : CXT} {k : Nat} {f C : Addr} {fd : FuncData} {ps ks : List Str} {sp : Sp} {E : XK} {x m : Str} {p pos apos kpos : Pos} {e o : Expr} {es : List Expr} {kws : List Keyword} {te ta : TE} {t tk : TA} {nm : Option Str}
structure KBinds (K : PySem.W.Frag) (fd : FuncData) (ps ks : List Str) (g : List Value → List Value → List Value) (gV : List V → List V → List V) : Prop where
  to : ∀ (s : Shared) (us ws : List Value), K.In s.heap → (g us ws).length = ps.length → BindsTo s fd ⟨us, ks.zip ws⟩ (ps.zip (g us ws))
  rel : ∀ {vs : List V} {us : List Value} {zs : List V} {ws : List Value}, zP vs us → zP zs ws → zP (gV vs zs) (g us ws)
variable {g : List Value → List Value → List Value} {gV : List V → List V → List V}
end
structure FnScope (N P : List Str) (sc : Scope) : Prop where
  kind : sc.kind = .function
  co : sc.isCoroutine = false
  gen : sc.isGenerator = false
  nd : N.Nodup
  pre : N.take P.length = P
  par : ∀ x ∈ P, sc.names.lookup x = some .local ∨ sc.names.lookup x = some .cell
  nofree : ∀ y ∈ sc.names, y.2 ≠ .free
theorem z3Z {kindOf : Str → Option NameKind} {x : Str} : ∀ {binds : List (Str × Value)} {m : Str → Option Value}, (∀ v, (x, v) ∉ binds) → bindL kindOf binds m x = m x
  | [], _, _ => rfl
  | (n, v) :: r, m, h => by
    unfold bindL;rw [z3Z fun w hw => h w (List.mem_cons_of_mem _ hw)];split
    · have : x ≠ n := by rintro rfl; exact h v List.mem_cons_self
      simp [this]
    · rfl
theorem z3U {kindOf : Str → Option NameKind} {x : Str} : ∀ {binds : List (Str × Value)} {m : Str → Option Value}, (∀ v, (x, v) ∉ binds) → bindC kindOf binds m x = m x
  | [], _, _ => rfl
  | (n, v) :: r, m, h => by
    unfold bindC;rw [z3U fun w hw => h w (List.mem_cons_of_mem _ hw)];split
    · rfl
    · have : x ≠ n := by rintro rfl; exact h v List.mem_cons_self
      simp [this]
theorem z45 {kindOf : Str → Option NameKind} {x : Str} {v : Value} : ∀ {P : List Str} {vs : List Value} {i : Nat} {m : Str → Option Value}, P.Nodup → P[i]? = some x → vs[i]? = some v → kindOf x = some .local →
    bindL kindOf (P.zip vs) m x = some v
  | [], _, _, _, _, h, _, _ => by simp at h
  | _ :: _, [], _, _, _, _, h, _ => by simp at h
  | p :: P, w :: vs, 0, m, nd, h1, h2, hk => by
    simp at h1 h2; subst h1; subst h2
    show bindL kindOf ((p, w) :: P.zip vs) m p = _
    unfold bindL;rw [z3Z fun v hv => (List.nodup_cons.mp nd).1 (List.of_mem_zip hv).1, if_pos hk];simp
  | p :: P, w :: vs, i + 1, m, nd, h1, h2, hk => by
    show bindL kindOf ((p, w) :: P.zip vs) m x = _
    unfold bindL;exact z45 (i := i) (List.nodup_cons.mp nd).2 (by simpa using h1) (by simpa using h2) hk
theorem z3D {kindOf : Str → Option NameKind} {x : Str} {v : Value} : ∀ {P : List Str} {vs : List Value} {i : Nat} {m : Str → Option Value}, P.Nodup → P[i]? = some x → vs[i]? = some v → kindOf x ≠ some .local →
    bindC kindOf (P.zip vs) m x = some v
  | [], _, _, _, _, h, _, _ => by simp at h
  | _ :: _, [], _, _, _, _, h, _ => by simp at h
  | p :: P, w :: vs, 0, m, nd, h1, h2, hk => by
    simp at h1 h2; subst h1; subst h2
    show bindC kindOf ((p, w) :: P.zip vs) m p = _
    unfold bindC;rw [z3U fun v hv => (List.nodup_cons.mp nd).1 (List.of_mem_zip hv).1, if_neg hk];simp
  | p :: P, w :: vs, i + 1, m, nd, h1, h2, hk => by
    show bindC kindOf ((p, w) :: P.zip vs) m x = _
    unfold bindC;exact z3D (i := i) (List.nodup_cons.mp nd).2 (by simpa using h1) (by simpa using h2) hk
noncomputable def start (N : List Str) (vs : List V) : St := vs.map some ++ List.replicate (N.length - vs.length) none
noncomputable def z3d (CX : CXT) (P : Program) (w : World) (K : PySem.W.Frag) (mg : Str → Option Value) (base : Heap) (N : List Str) (qual : Str) (scope : Scope) (f : Addr) (cd : Value) (A : Around) (outer : List Env) (s : Shared) (H : Hp) (E : XK) : Cx where
  prog := P
  w := w
  K := K
  mg := mg
  base := base
  A := A.deeper (envOfC qual scope s.heap.objs.size f cd)
  N := N
  s₀ := s
  H₀ := H
  env := envOfC qual scope s.heap.objs.size f cd
  outer := outer
  stack := envOfC qual scope s.heap.objs.size f cd :: outer
  ex := []
  calm := true
  fn := fun _ => true
  pn := []
  xe := fun e s' => wpAny (model P w) (A.deeper (envOfC qual scope s.heap.objs.size f cd)) (leaving (envOfC qual scope s.heap.objs.size f cd) e) (fun _ s'' => CX outer H s E e s'') (fun e' s'' => CX outer H s E e' s'') s'
theorem z5d {sc : Scope} {n : Nat} {x : Str} (h : sc.names.lookup x = some .cell) : ∃ c, (cellsFrom n sc.names []).lookup x = some c := by
  have q := PySem.W.cellsFrom_some sc.names n [] (.inl h);exact Option.isSome_iff_exists.mp q
theorem z3S {CX : CXT} {P : Program} {w : World} {K : PySem.W.Frag} {mg : Str → Option Value} {base : Heap} {N ps : List Str} {qual : Str} {scope : Scope} {f : Addr} {cd : Value} {A : Around} {outer : List Env} {s s1 : Shared} {H : Hp} {E : XK} {us : List Value} {vs : List V}
    (S : FnScope N ps scope) (hd : A.handled = none) (e0 : Env0 P w K mg base A outer s H) (hl : vs.length = ps.length) (r : zP vs us)
    (x : InCallC s s.heap.objs.size (bindL (envOfC qual scope s.heap.objs.size f cd).kindOf (ps.zip us) fun _ => none) (cellsFrom (s.heap.objs.size + 1) scope.names []) (bindC (envOfC qual scope s.heap.objs.size f cd).kindOf (ps.zip us) fun _ => none) s1) :
    Inv (z3d CX P w K mg base N qual scope f cd A outer s H E) [] (start N vs) H s1 := by
  have hpl : ps.length ≤ N.length := by have := congrArg List.length S.pre; rw [List.length_take] at this; omega
  obtain ⟨h1, tk, rfl, hk⟩ := x.done;have noA : ∀ b : Addr, b ∉ (z3d CX P w K mg base N qual scope f cd A outer s H E).ex := fun b z => absurd (show b ∈ ([] : List Addr) from z) (by simp)
  refine ⟨⟨e0.mod, S.kind, rfl, rfl, Nat.le_refl _, fun y z c h1 h2 => ?_, fun y hy => ?_, fun y c _ h => ?_, fun _ => hd, Around.frames_deeper e0.frames, .inr ⟨rfl, rfl⟩, fun b z => absurd z (noA b), e0.bs, e0.bsz, fun b _ _ => noA b, fun b z => absurd z (noA b), e0.funs, e0.frf⟩,
    rfl, e0.bare, Un.kept hk, ⟨_, x.toInCall.ns, fun i y v h1 h2 h3 => ?_⟩, fun y c h => ⟨_, x.cell y c h⟩, e0.hok.fresh (Nat.le_refl _), fun y c h => ?_, fun p hp => absurd (show p ∈ ([] : List (Addr × Obj)) from hp) (by simp), e0.hok.kept hk, ?_⟩
  · exact name_of_addr x.apart (PySem.mem_of_lookup h1) (PySem.mem_of_lookup h2)
  · have hy : scope.names.lookup y = some .cell ∨ scope.names.lookup y = some .free := hy;rcases hy with hy | hy
    · exact z5d hy
    · exact absurd rfl (S.nofree _ (PySem.mem_of_lookup hy))
  · exact Nat.le_of_lt (x.above y c (PySem.mem_of_lookup h))
  · have hi : i < vs.length := by
      unfold start at h2;by_cases hi : i < vs.length
      · exact hi
      · rw [List.getElem?_append_right (by simpa using hi)] at h2;rw [List.getElem?_replicate] at h2;split at h2 <;> cases h2
    have ha : vs[i]? = some v := by
      unfold start at h2;rw [List.getElem?_append_left (by simpa using hi), List.getElem?_map] at h2;cases e : vs[i]? with
      | none => rw [e] at h2; cases h2
      | some a => rw [e] at h2; cases h2; rfl
    obtain ⟨u, hu, rv⟩ := r.get ha;have hp : ps[i]? = some y := by
      rw [← S.pre, List.getElem?_take_of_lt (by omega)]; exact h1
    have ndP : ps.Nodup := by rw [← S.pre]; exact S.nd.sublist (List.take_sublist _ _)
    refine ⟨u, rv, ?_⟩;rcases S.par y (List.mem_of_getElem? hp) with k | k
    · exact .inl ⟨k, z45 ndP hp hu k⟩
    · obtain ⟨c, e⟩ := z5d (n := s.heap.objs.size + 1) k;refine .inr ⟨.inl k, c, e, ?_⟩;have q := x.cell y c e;rw [z3D ndP hp hu (by show scope.names.lookup y ≠ _; rw [k]; decide)] at q;exact q
  · exact e0.hok.fresh (Nat.le_of_lt (x.above y c (PySem.mem_of_lookup h)))
  · unfold start
    show _ = N.length
    rw [List.length_append, List.length_map, List.length_replicate];omega
theorem z9q {CX : CXT} {P : Program} {w : World} {K : PySem.W.Frag} {mg : Str → Option Value} {base : Heap} {k : Nat} {f : Addr} {name qual : Str} {params : Arguments} {body : List Stmt} {scope : Scope} {dV kV doc pm cdv ct oc : Value} {an od : Option Addr}
    {osl : Array (Option Value)} {N ps : List Str} {sp : Sp} (lk : K.lookup f = some ⟨oc, od, .func (PySem.W.fnOf name qual params body scope dV kV doc pm an cdv ct), osl⟩) (hcd : PySem.W.codeIn K cdv qual = true) (S : FnScope N ps scope)
    (len : ∀ vs H Q E, sp vs H Q E → vs.length = ps.length)
    (hbody : ∀ (A : Around) (outer : List Env) (s : Shared) (H : Hp) (vs : List V) (Q : VK) (E : XK), Room k (A.deeper (envOfC qual scope s.heap.objs.size f cdv)) → sp vs H Q E →
      ∃ t, PSs (z3d CX P w K mg base N qual scope f cdv A outer s H E) body t ∧ t { nx := fun _ H' => Q .non H', rt := Q } (start N vs) H) :
    FnOk P w K mg base CX (k + 1) f (PySem.W.fnOf name qual params body scope dV kV doc pm an cdv ct) ps sp := by
  refine ⟨len, fun A outer s H args us vs Q E hr e0 hb r hsp => ?_⟩;have hl := len _ _ _ _ hsp;have KX : K.In s.heap := e0.mod.kin.keeps fun b o e => (e0.bs b o e).1
  have lim : s.heap.NoLimit := e0.mod.nolimit.keeps fun b o e => (e0.bs b o e).1
  have hkind : ∀ y ∈ ps.zip us, scope.names.lookup y.1 = some .local ∨ (scope.names.lookup y.1 = some .cell ∧ ((cellsFrom (s.heap.objs.size + 1) scope.names []).lookup y.1).isSome = true) := fun ⟨n, v⟩ hy => by
    rcases S.par n (List.of_mem_zip hy).1 with q | q
    · exact .inl q
    · exact .inr ⟨q, PySem.W.cellsFrom_some _ _ _ (.inl q)⟩
  refine codeAny_call_function hr.depth (KX _ _ lk) rfl S.co S.gen rfl (PySem.W.codeRec_of KX hcd) (hb _ _ _ _ ?_);refine wpAny_newFunctionEnv_cells S.kind hkind fun env he s1 x => ?_
  subst he;refine ⟨lim.keeps x.toInCall.keep, codeAny_func ?_⟩;obtain ⟨t, ht, hq⟩ := hbody A outer s H vs Q E (hr.deeper _) hsp;have I : Inv (z3d CX P w K mg base N qual scope f cdv A outer s H E) [] (start N vs) H s1 := z3S S hr.hd e0 hl r x;refine wpAny_mono (ht [] s1 (start N vs) H _ I hq) (fun fl s' hs => ?_) fun e s' hs => hs
  have fin : ∀ {σ' : St} {H' : Hp} {v : V} {u : Value}, Inv (z3d CX P w K mg base N qual scope f cdv A outer s H E) [] σ' H' s' → RelV v u → Q v H' → CE outer P w H s Q u s' :=
    fun {σ' H' v u} J rv q => ⟨v, H', J.os, J.bare, J.base, J.hok, rv, q⟩
  cases fl with
  | ret u =>
    obtain ⟨v, σ', H', J, rv, q⟩ := hs;exact fin J rv q
  | next =>
    obtain ⟨σ', H', J, q⟩ := hs;exact fin (v := V.non) (u := Value.none) J rfl q
  | brk =>
    obtain ⟨_, _, _, q⟩ := hs;exact False.elim q
  | cont =>
    obtain ⟨_, _, _, q⟩ := hs;exact False.elim q
end L2
namespace L2
open PySem PySem.Spec PyProof.Rows
section
variable {X : Cx} {x : Str} {p pos : Pos} {e : Expr} {es : List Expr} {t : TA} {id T : String} {r : List V → Hp → VK → Prop}
noncomputable def tCB (r : List V → Hp → VK → Prop) (t : TA) : TE := fun σ H Q => t σ H fun vs H1 => r vs H1 Q
theorem zx (hc : kf X (.builtin id) r) (hg : Gl X x) (hm : X.mg x = none) (hv : bootBuiltins x = some (.builtin id)) (ha : PA X (e :: es) t) (hn : x ≠ "__name__" := by decide) (hdb : (x == ("__debug__" : Str)) = false := by decide)
    (he : starEach (e :: es) X.env = (false, eval e X.env) :: starEach es X.env := by rfl) (hpl : (backTo pos (starEach es X.env)).any (·.1) = false := by rfl) : PE X (.Call (.Name x p) (e :: es) [] pos) (tCB r t) := by
  intro pins s σ H Q I h;refine wpAny_Call_Name_kw (z0N I hg hm hv ?_ hn hdb);exact PyProof.Rows.callWith_builtin1 (thn (ha pos pins s σ H _ I h) fun us s1 ⟨vs, H1, I1, r1, q1⟩ => hc pins s1 σ H1 vs us Q I1 r1 q1) he hpl
theorem jq (hc : kf X (.type T) r) (hg : Gl X x) (hm : X.mg x = none) (hv : bootBuiltins x = some (.type T)) (ha : PA X (e :: es) t) (hn : x ≠ "__name__" := by decide) (hdb : (x == ("__debug__" : Str)) = false := by decide)
    (he : starEach (e :: es) X.env = (false, eval e X.env) :: starEach es X.env := by rfl) (hpl : (backTo pos (starEach es X.env)).any (·.1) = false := by rfl) : PE X (.Call (.Name x p) (e :: es) [] pos) (tCB r t) := by
  intro pins s σ H Q I h;refine wpAny_Call_Name_kw (z0N I hg hm hv ?_ hn hdb);exact PyProof.Rows.callWith_type1 (thn (ha pos pins s σ H _ I h) fun us s1 ⟨vs, H1, I1, r1, q1⟩ => hc pins s1 σ H1 vs us Q I1 r1 q1) he hpl
end
end L2
namespace HT
open PySem PyProof.Rows
section
open PySem.SeqAt
open PySem.AutoSeq1 (wpAny_loadPart')
open PySem.MeetsSeq PySem.MeetsSeq2 PySem.MeetsSeq3
end
section
variable {prog : Program} {w : World} {A : Around} {E : Value → Shared → Prop} {s : Shared}
noncomputable def sIx (n d : Nat) : Option Int → Nat
  | none => d
  | some v => if v < 0 then (v + (n : Int)).toNat else min v.toNat n
theorem sIx_none (n d : Nat) : sIx n d none = d := rfl
theorem z9Q (n d : Nat) (hd : d ≤ n) (o : Option Int) : sIx n d o ≤ n := by
  cases o with
  | none => exact hd
  | some v =>
    show (if v < 0 then (v + (n : Int)).toNat else min v.toNat n) ≤ n
    by_cases hv : v < 0
    · rw [if_pos hv]; omega
    · rw [if_neg hv]; exact Nat.min_le_right _ _
theorem z6G (v : Int) (n d : Nat) : (if v < 0 then max (v + (n : Int)) 0 else min v (n : Int)) = ((sIx n d (some v) : Nat) : Int) := by
  show (if v < 0 then max (v + (n : Int)) 0 else min v (n : Int)) = (((if v < 0 then (v + (n : Int)).toNat else min v.toNat n) : Nat) : Int)
  by_cases hv : v < 0
  · simp only [if_pos hv]; omega
  · simp only [if_neg hv]; omega
theorem z60 (lo hi : Option Int) (n : Nat) : Builtin.Slice.sliceAdjust lo hi 1 (n : Int) = (((sIx n 0 lo : Nat) : Int), ((sIx n n hi : Nat) : Int)) := by
  have h1 : ¬ ((1 : Int) < 0) := by omega
  unfold Builtin.Slice.sliceAdjust;simp only [h1, if_false];refine Prod.ext ?_ ?_
  · cases lo with
    | none => rfl
    | some v => exact z6G v n 0
  · cases hi with
    | none => rfl
    | some v => exact z6G v n n
theorem z6b (i j : Nat) : Builtin.Slice.slicePlaces (i : Int) (j : Int) 1 = j - i := by
  unfold Builtin.Slice.slicePlaces;have h1 : (1 : Int) > 0 := by omega
  simp only [h1, if_true, Int.ediv_one];split <;> omega
theorem z33 {v : Value} {o : Option Int} {Q : Option Int → Shared → Prop} (p : IsPart v o) (h : Q o s) : wpAny (model prog w) A (Builtin.Slice.slicePartIndex v) Q E s := by
  cases p with
  | none => exact slicePart_none h
  | int i t => exact slicePart_int h
theorem z2a {sl : Addr} {vl vu : Value} {lo hi : Option Int} {n : Nat} {Q : Int × Int × Nat → Shared → Prop} (hs : s.heap.IsSliceOf sl vl vu .none) (pl : IsPart vl lo) (pu : IsPart vu hi)
    (h : Q (((sIx n 0 lo : Nat) : Int), 1, sIx n n hi - sIx n 0 lo) s) : wpAny (model prog w) A (Builtin.Slice.sliceApplied (.ref sl) (pure (n : Int))) Q E s := by
  obtain ⟨os, hos, hcs, hds⟩ := id hs;unfold Builtin.Slice.sliceApplied Builtin.Slice.sliceFields;refine wpAny_bind (wpAny_bind (wpAny_field hos hds (x := vl) rfl (wpAny_bind (wpAny_field hos hds (x := vu) rfl (wpAny_bind (wpAny_field hos hds (x := .none) rfl (wpAny_pure ?_)))))));refine wpAny_bind (slicePart_none ?_)
  show wpAny _ _ (if ((1 : Int) == 0) = true then _ else _) _ _ s
  rw [if_neg (by decide)];refine wpAny_bind (z33 pl (wpAny_bind (z33 pu (wpAny_bind (wpAny_pure ?_)))))
  show wpAny _ _ (match Builtin.Slice.sliceAdjust lo hi 1 (n : Int) with | (lo, hi) => pure (lo, (1 : Int), Builtin.Slice.slicePlaces lo hi 1)) _ _ s
  rw [z60 lo hi n]
  show wpAny _ _ (pure (((sIx n 0 lo : Nat) : Int), (1 : Int), Builtin.Slice.slicePlaces ((sIx n 0 lo : Nat) : Int) ((sIx n n hi : Nat) : Int) 1)) _ _ s
  rw [z6b];exact wpAny_pure h
theorem z7P (xs : Array Value) (i k : Nat) : ((List.range k).filterMap fun (m : Nat) => xs[((i : Int) + (m : Int) * 1).toNat]?).toArray = ((xs.toList.drop i).take k).toArray := by
  have e : (fun (m : Nat) => xs[((i : Int) + (m : Int) * 1).toNat]?) = fun m => xs[i + m]? := by
    funext m
    have : ((i : Int) + (m : Int) * 1).toNat = i + m := by omega
    rw [this]
  rw [e];have := pick_run xs i k;rw [List.filterMap_map] at this;have e2 : ((fun x => xs[x]?) ∘ fun x => i + x) = fun m => xs[i + m]? := rfl
  rw [e2] at this;rw [this]
theorem getItem_tuple_cut {t sl : Addr} {items : Array Value} {vl vu : Value} {lo hi : Option Int} {Q : Value → Shared → Prop} (ht : IsTup s.heap t items) (hs : s.heap.IsSliceOf sl vl vu .none) (pl : IsPart vl lo) (pu : IsPart vu hi)
    (hw : ¬ (sIx items.size 0 lo = 0 ∧ sIx items.size items.size hi = items.size))
    (h : Q (.ref s.heap.objs.size) { s with heap := s.heap.push { cls := .type "tuple", data := .seq ((items.toList.drop (sIx items.size 0 lo)).take (sIx items.size items.size hi - sIx items.size 0 lo)).toArray } })
    (hsz : items.size ≤ sizeLine) : wpAny (model prog w) A (getItem (.ref t) (.ref sl)) Q E s := by
  have htake : sizeOk (.seq ((items.toList.drop (sIx items.size 0 lo)).take (sIx items.size items.size hi - sIx items.size 0 lo)).toArray) := by
    show ((items.toList.drop (sIx items.size 0 lo)).take (sIx items.size items.size hi - sIx items.size 0 lo)).toArray.size ≤ sizeLine
    rw [List.size_toArray, List.length_take, List.length_drop, Array.length_toList];omega
  have hj : sIx items.size items.size hi ≤ items.size := z9Q _ _ (Nat.le_refl _) hi;obtain ⟨os, hos, hcs, hds⟩ := id hs;have hTs : s.TypeIs (.ref sl) "slice" := ⟨os, hos, hcs⟩;unfold getItem
  try with_reducible refine wpAny_holding ?_
  first | refine wpAny_bind (wpAny_pure ?_) | skip
  refine wpAny_bind (wpAny_sequenceKey ht.typeIs (by decide) ?_);refine wpAny_bind (wpAny_callSpecial?_slot (name := Str.ofString "__getitem__") ht.typeIs PyProof.Rows.slot_tuple_getitem
    (wpAny_call_entry PyProof.Rows.slot_tuple_getitem ht.typeIs entry_tuple_getitem ?_ (args_tuple_getitem _ _)))
  show wpAny _ _ (Builtin.Tuple.tupleItemsOf (.ref t) >>= _) _ _ s
  refine wpAny_bind (tupleItemsOf_ ht ?_);refine wpAny_bind (wpAny_typeOf hTs ?_);rw [if_pos (by decide)];refine wpAny_bind (z2a hs pl pu ?_);have hno : ¬ ((((sIx items.size 0 lo : Nat) : Int) == 0 && (1 : Int) == 1 && (sIx items.size items.size hi - sIx items.size 0 lo) == items.size) = true) := by
    intro q;rw [Bool.and_eq_true, Bool.and_eq_true] at q;have q1 : ((sIx items.size 0 lo : Nat) : Int) = 0 := eq_of_beq q.1.1;have q2 : sIx items.size items.size hi - sIx items.size 0 lo = items.size := eq_of_beq q.2;exact hw ⟨by omega, by omega⟩
  show wpAny _ _ (if (((sIx items.size 0 lo : Nat) : Int) == 0 && (1 : Int) == 1 && (sIx items.size items.size hi - sIx items.size 0 lo) == items.size) = true then _ else _) _ _ s
  rw [if_neg hno, z7P]
  first
    | exact wpAny_bind (m := Builtin.Tuple.tupleExact _) (wpAny_newObj_type (wpAny_pure ⟨_, rfl, wpAny_pure h⟩) htake)
    | exact wpAny_bind (m := Builtin.Tuple.tupleExact _) (wpAny_newObj_type (wpAny_bind (wpAny_pure (wpAny_pure ⟨_, rfl, wpAny_pure h⟩))) htake)
    | exact wpAny_bind (wpAny_bind (m := Builtin.Tuple.tupleExact _) (wpAny_newObj_type (wpAny_pure (wpAny_pure ⟨_, rfl, wpAny_pure h⟩)) htake))
    | exact wpAny_bind (wpAny_bind (m := Builtin.Tuple.tupleExact _) (wpAny_newObj_type (wpAny_pure ⟨_, rfl, wpAny_pure h⟩) htake))
end
end HT
namespace L2
open PySem PySem.Spec PyProof.Rows
noncomputable abbrev TO := St → Hp → (Option Int → Hp → Prop) → Prop
noncomputable def PO (X : Cx) (e : Option Expr) (t : TO) : Prop :=
  ∀ (pins : List (Addr × Obj)) (s : Shared) (σ : St) (H : Hp) (Q : Option Int → Hp → Prop), Inv X pins σ H s → t σ H Q →
    wpAny (model X.prog X.w) X.A (evalPart e X.env) (fun u s' => ∃ o H', Inv X pins σ H' s' ∧ IsPart u o ∧ Q o H') X.xe s
noncomputable def z9j : TO := fun _ H Q => Q none H
noncomputable def zaK (t : TE) : TO := fun σ H Q => t σ H fun x H1 => ∃ i, x = .int i ∧ Q (some i) H1
theorem intsAre_of {ns : List Int} : ∀ {us : List Value}, zP (ns.map V.int) us → IntsAre us ns := by
  induction ns with
  | nil => intro us r; rw [List.map_nil] at r; cases r; exact .nil
  | cons n ns ih =>
    intro us r;rw [List.map_cons] at r;cases r with
    | cons r1 r2 =>
      obtain ⟨t, e⟩ := r1;subst e;exact .cons n t (ih r2)
section
variable {X : Cx} {e : Expr} {te : TE} {lo hi : Option Expr} {tl th : TO} {pos p2 : Pos}
theorem jS : PO X none z9j := by
  intro pins s σ H Q I h;rw [evalPart_none];exact wpAny_pure ⟨none, H, I, .none, h⟩
theorem jG (h : PE X e te) : PO X (some e) (zaK te) := by
  intro pins s σ H Q I hw;rw [evalPart_some];refine thn (h pins s σ H _ I hw) fun u s1 ⟨x, H1, I1, r1, q1⟩ => ?_
  obtain ⟨i, rfl, q⟩ := q1;obtain ⟨t, rfl⟩ := r1;exact ⟨some i, H1, I1, .int i t, q⟩
noncomputable def SlR (X : Cx) (r : V → Option Int → Option Int → Hp → VK → Prop) : Prop :=
  ∀ (pins : List (Addr × Obj)) (s : Shared) (σ : St) (H : Hp) (x : V) (v vl vu : Value) (lo hi : Option Int) (sl : Addr) (Q : VK), Inv X pins σ H s → RelV x v → s.heap.IsSliceOf sl vl vu .none → IsPart vl lo → IsPart vu hi → r x lo hi H Q →
    ∃ T id, typeLookup (.type T) "__getitem__" = pure (some (.builtin id)) ∧ s.TypeIs v T ∧ wpAny (model X.prog X.w) X.A (getItem v (.ref sl)) (EP X pins σ Q) X.xe s
noncomputable def tSl (r : V → Option Int → Option Int → Hp → VK → Prop) (te : TE) (tl th : TO) : TE := fun σ H Q => te σ H fun x H1 => tl σ H1 fun l H2 => th σ H2 fun u H3 => r x l u H3 Q
theorem jn {r : V → Option Int → Option Int → Hp → VK → Prop} (hr : SlR X r) (he : PE X e te) (hl : PO X lo tl) (hu : PO X hi th) : PE X (.Subscript e (.Slice lo hi none p2) pos) (tSl r te tl th) := by
  intro pins s σ H Q I h;refine Subscript_ (thn (he pins s σ H _ I h) fun v s1 ⟨x, H1, I1, r1, q1⟩ => ?_);refine wpAny_Slice (thn (hl pins s1 σ H1 _ I1 q1) fun vl s2 ⟨l, H2, I2, pl, q2⟩ => thn (hu pins s2 σ H2 _ I2 q2) fun vu s3 ⟨u, H3, I3, pu, q3⟩ => ?_);rw [evalPart_none];refine wpAny_pure ?_;have I4 : Inv X pins σ H3 { s3 with heap := s3.heap.push { cls := .type "slice", data := .fields #[vl, vu, .none] } } := I3.kept (t' := s3.toks) fun b ob q => Heap.get?_push_of_some _ q
  obtain ⟨T, id, hT, ht, hg⟩ := hr pins { s3 with heap := s3.heap.push { cls := .type "slice", data := .fields #[vl, vu, .none] } } σ H3 x v vl vu l u s3.heap.objs.size Q I4 r1 (Heap.IsSliceOf.new ..) pl pu q3
  show wpAny (model X.prog X.w) X.A (subscriptTail e (.Slice lo hi none p2) v (.ref s3.heap.objs.size)) (EP X pins σ Q) X.xe { s3 with heap := s3.heap.push { cls := .type "slice", data := .fields #[vl, vu, .none] } }
  exact tail_any (ops := [.ref s3.heap.objs.size, v]) ht hT hg (by with_unfolding_all rfl)
noncomputable def z0Z (xs : List V) (lo hi : Option Int) : List V := (xs.drop (HT.sIx xs.length 0 lo)).take (HT.sIx xs.length xs.length hi - HT.sIx xs.length 0 lo)
theorem z2i (xs : List V) (lo hi : Option Int) : (z0Z xs lo hi).length ≤ xs.length := by
  unfold z0Z;rw [List.length_take, List.length_drop];omega
noncomputable def zb1 (K : PySem.W.Frag) : V → Option Int → Option Int → Hp → VK → Prop := fun x lo hi H Q => ∃ a xs, x = .ref a ∧ SqT K H a xs ∧
  ¬ (HT.sIx xs.length 0 lo = 0 ∧ HT.sIx xs.length xs.length hi = xs.length) ∧ ∀ p, H p = none → Q (.ref p) (upd H p (.tup (z0Z xs lo hi)))
theorem z4M : SlR X (zb1 X.K) := by
  intro pins s σ H x v vl vu lo hi sl Q I rx hs pl pu h;obtain ⟨a, xs, rfl, hx, hw, q⟩ := h;cases rx;obtain ⟨its, r, ht, hz⟩ := I.tuple hx;have hlen : its.toArray.size = xs.length := by rw [List.size_toArray]; exact r.length.symm
  refine ⟨"tuple", _, PyProof.Rows.slot_tuple_getitem.lookup, ht.typeIs, ?_⟩;refine HT.getItem_tuple_cut ht hs pl pu (by rw [hlen]; exact hw) ?_ (by rw [hlen]; exact hz);rw [hlen];refine ⟨.ref s.heap.objs.size, _, I.laid (t' := s.toks) (o := .tup (z0Z xs lo hi)) (fun b ob q => Heap.get?_push_of_some _ q) (Nat.le_refl _) ?_, rfl, q _ (I.hok.fresh (Nat.le_refl _))⟩;exact ⟨Nat.le_trans (z2i xs lo hi) hz, _, (r.drop (HT.sIx xs.length 0 lo)).take (HT.sIx xs.length xs.length hi - HT.sIx xs.length 0 lo), IsTup.new _ _⟩
end
end L2
namespace L2
open PySem PySem.Spec PyProof.Rows
noncomputable def ixN (n : Nat) (i : Int) : Option Nat := if 0 ≤ i then (if i < n then some i.toNat else none) else if -(n : Int) ≤ i then some (i + n).toNat else none
noncomputable def atI {α : Type} (xs : List α) (i : Int) : Option α := (ixN xs.length i).bind fun j => xs[j]?
theorem z6M {n : Nat} {i : Int} {j : Nat} (h : ixN n i = some j) : seqIndex? i n = some j ∧ j < n ∧ -(n : Int) ≤ i ∧ i < n := by
  unfold ixN at h;by_cases h0 : 0 ≤ i
  · rw [if_pos h0] at h;by_cases h1 : i < n
    · rw [if_pos h1] at h;have e : i.toNat = j := Option.some.inj h;exact ⟨by rw [seqIndex_of h0 h1, e], by omega, by omega, h1⟩
    · rw [if_neg h1] at h; cases h
  · rw [if_neg h0] at h;by_cases h1 : -(n : Int) ≤ i
    · rw [if_pos h1] at h;have e : (i + n).toNat = j := Option.some.inj h;exact ⟨by rw [seqIndex_neg (by omega) h1, e], by omega, h1, by omega⟩
    · rw [if_neg h1] at h; cases h
theorem z49 {α : Type} {xs : List α} {i : Int} {v : α} (h : atI xs i = some v) : ∃ j, seqIndex? i xs.length = some j ∧ xs[j]? = some v ∧ j < xs.length ∧ -(xs.length : Int) ≤ i ∧ i < xs.length := by
  unfold atI at h;cases e : ixN xs.length i with
  | none => rw [e] at h; cases h
  | some j =>
    rw [e] at h;obtain ⟨h1, h2, h3, h4⟩ := z6M e;exact ⟨j, h1, h, h2, h3, h4⟩
theorem zW {α : Type} {xs : List α} {j : Nat} {v : α} (h : xs[j]? = some v) : atI xs (j : Int) = some v := by
  have hj : j < xs.length := (List.getElem?_eq_some_iff.mp h).1;have e : ixN xs.length (j : Int) = some j := by
    unfold ixN;rw [if_pos (by omega), if_pos (by omega)]; simp
  unfold atI; rw [e]; exact h
theorem z8y {α : Type} (xs : List α) (v : α) : atI (xs ++ [v]) (-1) = some v := by
  have hl : (xs ++ [v]).length = xs.length + 1 := by simp
  have e : ixN (xs ++ [v]).length (-1) = some xs.length := by
    unfold ixN;rw [hl, if_neg (by decide), if_pos (by omega)]
    congr 1
    omega
  unfold atI;rw [e]
  show (xs ++ [v])[xs.length]? = some v
  simp
noncomputable def z9p (b : Expr) : Prop := ∀ o i, subscripted b false o i = operate [o, i] (getItem o i)
noncomputable def IxR (X : Cx) (r : R2) : Prop :=
  ∀ (value slice : Expr) (pins : List (Addr × Obj)) (s : Shared) (σ : St) (H : Hp) (x y : V) (v u : Value) (Q : VK), Inv X pins σ H s → RelV x v → RelV y u → r x y H Q →
    subscripted slice false v u = operate [v, u] (getItem v u) → wpAny (model X.prog X.w) X.A (subscriptTail value slice v u) (EP X pins σ Q) X.xe s
noncomputable def MtR (X : Cx) (id : String) (r : V → List V → Hp → VK → Prop) : Prop :=
  ∀ (pins : List (Addr × Obj)) (s : Shared) (σ : St) (H : Hp) (x : V) (xs : List V) (v : Value) (us : List Value) (Q : VK), Inv X pins σ H s → RelV x v → zP xs us → r x xs H Q →
    wpAny (model X.prog X.w) X.A (call (.builtin id) (v :: us)) (EP X pins σ Q) X.xe s
section
variable {X : Cx} {a b : Expr} {ta tb : TE} {pos : Pos}
theorem zh {r : R2} (hr : IxR X r) (ha : PE X a ta) (hb : PE X b tb) (hs : z9p b) : PE X (.Subscript a b pos) (tOp r ta tb) := by
  intro pins s σ H Q I h;exact Subscript_ (z9W ha hb I h fun v u s2 x y H2 I2 rx ry q => hr a b pins s2 σ H2 x y v u Q I2 rx ry q (hs _ _))
noncomputable def zaB (K : PySem.W.Frag) : R2 := fun x y H Q => ∃ p xs i v, x = .ref p ∧ y = .int i ∧ SqL K H p xs ∧ atI xs i = some v ∧ Q v H
noncomputable def zak (K : PySem.W.Frag) : R2 := fun x y H Q => ∃ p xs i v, x = .ref p ∧ y = .int i ∧ SqT K H p xs ∧ atI xs i = some v ∧ Q v H
noncomputable def zb7 : R2 := fun x y H Q => ∃ z i c, x = .str z ∧ y = .int i ∧ z.length ≤ sizeLine ∧ atI z.cps.toList i = some c ∧ Q (.str ⟨#[c]⟩) H
theorem zz : IxR X (zaB X.K) := by
  intro value slice pins s σ H x y v u Q I rx ry h hs;obtain ⟨p, xs, i, z, rfl, rfl, hq, he, q⟩ := h;cases rx;obtain ⟨t, rfl⟩ := ry;obtain ⟨its, r, pl, hz⟩ := I.list hq;obtain ⟨j, h1, h2, h3, h4, h5⟩ := z49 he;obtain ⟨w, ew, rw'⟩ := r.get h2;have hl := r.length;have hn := z1f;have fin : EP X pins σ Q w s := ⟨z, H, I, rw', q⟩;by_cases h0 : 0 ≤ i
  · have hj : i.toNat = j := by
      rw [seqIndex_of h0 h5] at h1;exact Option.some.inj h1
    exact item_listR pl.isList h0 (by omega) (by rw [hj]; simpa using ew) fin hs
  · have hj : (i + (its.toArray.size : Int)).toNat = j := by
      rw [seqIndex_neg (by omega) h4] at h1;rw [List.size_toArray, ← hl];exact Option.some.inj h1
    exact subscriptTail_builtinR (x := w) pl.isList.typeIs slot_list_getitem.lookup
      (wpAny_getItem_list_neg (Q := fun r s' => r = w ∧ EP X pins σ Q r s') pl.isList (by omega) (by rw [List.size_toArray] <;> omega) (by omega) (by rw [hj]; simpa using ew) ⟨rfl, fin⟩) hs
theorem zj : IxR X (zak X.K) := by
  intro value slice pins s σ H x y v u Q I rx ry h hs;obtain ⟨p, xs, i, z, rfl, rfl, hq, he, q⟩ := h;cases rx;obtain ⟨t, rfl⟩ := ry;obtain ⟨its, r, pl, hz⟩ := I.tuple hq;obtain ⟨j, h1, h2, h3, h4, h5⟩ := z49 he;obtain ⟨w, ew, rw'⟩ := r.get h2;have hl := r.length;have hn := z1f;have fin : EP X pins σ Q w s := ⟨z, H, I, rw', q⟩;exact subscriptTail_builtinR (x := w) pl.typeIs slot_tuple_getitem.lookup
    (getItem_tuple (j := j) (Q := fun r s' => r = w ∧ EP X pins σ Q r s') pl (by omega) (by omega) (by rw [List.size_toArray, ← hl]; exact h1) (by simpa using ew) ⟨rfl, fin⟩) hs
theorem z9z : IxR X zb7 := by
  intro value slice pins s σ H x y v u Q I rx ry h hs;obtain ⟨z, i, c, rfl, rfl, hz, he, q⟩ := h;obtain ⟨t, rfl⟩ := rx;obtain ⟨t', rfl⟩ := ry;obtain ⟨j, h1, h2, h3, h4, h5⟩ := z49 he;have hl : z.cps.toList.length = z.length := by simp [Str.length]
  rw [hl] at h1 h4 h5;have hn := z1f;exact tail_any (typeIs_str s z t) slot_str_getitem.lookup (getItem_str (c := c) (by
    have e1 : decide (i < -(2 ^ 63 : Int)) = false := decide_eq_false (by omega);have e2 : decide (i ≥ 2 ^ 63) = false := decide_eq_false (by omega);rw [e1, e2, Bool.or_false]) (by rw [h1]; simpa using h2) ⟨.str ⟨#[c]⟩, H, I.tok _, ⟨_, rfl⟩, q⟩) hs
theorem z5R (its : List Value) (n j : Nat) (u : Value) : Obj.mapSeq (·.setIfInBounds j u) { cls := .type "list", data := .seq its.toArray n } = { cls := .type "list", data := .seq (its.set j u).toArray n } := by
  simp [Obj.mapSeq]
theorem Inv.lst {pins : List (Addr × Obj)} {σ : St} {H : Hp} {s : Shared} {p : Addr} {xs : List V} (I : Inv X pins σ H s) (h : H p = some (.lst xs)) :
    ∃ (its : List Value) (n : Nat), zP xs its ∧ s.heap.get? p = some { cls := .type "list", data := .seq its.toArray n } ∧ xs.length ≤ sizeLine := by
  obtain ⟨z, its, n, r, e⟩ := I.hok p _ h;exact ⟨its, n, r, e, z⟩
theorem Inv.lstUpd {pins : List (Addr × Obj)} {σ : St} {H : Hp} {s : Shared} {p : Addr} {xs ys : List V} {its its' : List Value} {n n' : Nat} {f : Obj → Obj} (I : Inv X pins σ H s) (h : H p = some (.lst xs))
    (ho : s.heap.get? p = some { cls := .type "list", data := .seq its.toArray n }) (hf : f { cls := .type "list", data := .seq its.toArray n } = { cls := .type "list", data := .seq its'.toArray n' }) (r : zP ys its') (hz : ys.length ≤ sizeLine) (t : Nat) :
    Inv X pins σ (upd H p (.lst ys)) { s with heap := s.heap.update p f, toks := t } := by
  have e : (s.heap.update p f).get? p = some { cls := .type "list", data := .seq its'.toArray n' } := by
    rw [Heap.get?_update_self f ho (by rw [hf] <;> rfl), hf]
  refine I.write (x := p) (e := p) (by rw [h]; trivial) (.inl rfl) (fun b u hb q => (Heap.get?_update_other _ _ (Ne.symm hb)).trans q) ⟨_, e⟩ ?_;exact ⟨hz, its', n', r, e⟩
noncomputable def zah : V → V → V → Hp → (Hp → Prop) → Prop := fun o i v H Q => ∃ p xs k j, o = .ref p ∧ i = .int k ∧ H p = some (.lst xs) ∧ ixN xs.length k = some j ∧ Q (upd H p (.lst (xs.set j v)))
theorem set_list : zao X zah := by
  intro pins s σ H o i v ov iv u Q I ro ri rv h;obtain ⟨p, xs, k, j, rfl, rfl, hp, hj, q⟩ := h;cases ro;obtain ⟨t, rfl⟩ := ri;obtain ⟨its, n, r, ho, hz⟩ := I.lst hp;obtain ⟨h1, h2, h3, h4⟩ := z6M hj;have hl := r.length;have hn := z1f;have I' : Inv X pins σ (upd H p (.lst (xs.set j v))) { s with heap := s.heap.update p (Obj.mapSeq (·.setIfInBounds j u)) } :=
    I.lstUpd hp ho (z5R its n j u) (r.set rv j) (by rw [List.length_set]; exact hz) s.toks
  by_cases h0 : 0 ≤ k
  · have hk : k.toNat = j := by
      rw [seqIndex_of h0 h4] at h1;exact Option.some.inj h1
    exact PySem.W.ki_setAt ho h0 (by omega) (by rw [List.size_toArray, ← hl]; exact h4) (by rw [hk]; exact ⟨_, I', q⟩)
  · have hk : (k + (its.toArray.size : Int)).toNat = j := by
      rw [seqIndex_neg (by omega) h3] at h1;rw [List.size_toArray, ← hl];exact Option.some.inj h1
    exact PySem.W.ki_setBack ho (by omega) (by rw [List.size_toArray, ← hl]; exact h3) (by omega) (by rw [hk]; exact ⟨_, I', q⟩)
theorem z4E (lo hi : Option Int) (n : Nat) : (sliceBounds lo hi none n).1 = ((HT.sIx n 0 lo : Nat) : Int) ∧ (sliceBounds lo hi none n).2.1 = ((HT.sIx n n hi : Nat) : Int) ∧ (sliceBounds lo hi none n).2.2 = 1 := by
  refine ⟨?_, ?_, rfl⟩
  · cases lo with
    | none => simp [sliceBounds, HT.sIx]
    | some i =>
      simp only [sliceBounds, HT.sIx, Option.getD_none, show (1 : Int) > 0 by decide, if_true];by_cases h : i < 0
      · simp only [h, if_true] <;> omega
      · simp only [h, if_false] <;> omega
  · cases hi with
    | none => simp [sliceBounds, HT.sIx]
    | some i =>
      simp only [sliceBounds, HT.sIx, Option.getD_none, show (1 : Int) > 0 by decide, if_true];by_cases h : i < 0
      · simp only [h, if_true] <;> omega
      · simp only [h, if_false] <;> omega
theorem z3p (its : List Value) (lo hi : Option Int) : slicePick its.toArray lo hi none = ((its.drop (HT.sIx its.length 0 lo)).take (HT.sIx its.length its.length hi - HT.sIx its.length 0 lo)).toArray := by
  obtain ⟨h1, h2, h3⟩ := z4E lo hi its.toArray.size;unfold slicePick;rw [h1, h2, h3];simp only [sliceRange_one, pick_run, List.size_toArray] <;> rfl
noncomputable def zb9 (K : PySem.W.Frag) : V → Option Int → Option Int → Hp → VK → Prop := fun x lo hi H Q => ∃ a xs, x = .ref a ∧ SqL K H a xs ∧ ∀ p, H p = none → Q (.ref p) (upd H p (.lst (z0Z xs lo hi)))
theorem yy : SlR X (zb9 X.K) := by
  intro pins s σ H x v vl vu lo hi sl Q I rx hs pl pu h;obtain ⟨a, xs, rfl, hx, q⟩ := h;cases rx;obtain ⟨its, r, ht, hz⟩ := I.list hx;have hlen := r.length;refine ⟨"list", _, slot_list_getitem.lookup, ht.isList.typeIs, ?_⟩;refine wpAny_getItem_list_slice ht.isList hs pl pu .none (by simp) ?_ (by rw [List.size_toArray] <;> omega);rw [z3p, ← hlen];refine ⟨.ref s.heap.objs.size, _, I.laid (t' := s.toks) (o := .lst (z0Z xs lo hi)) (fun b ob q => Heap.get?_push_of_some _ q) (Nat.le_refl _) ?_, rfl, q _ (I.hok.fresh (Nat.le_refl _))⟩;exact ⟨Nat.le_trans (z2i xs lo hi) hz, _, 0, (r.drop (HT.sIx xs.length 0 lo)).take (HT.sIx xs.length xs.length hi - HT.sIx xs.length 0 lo), Heap.get?_push_size _ rfl⟩
noncomputable def kg : V → Bool
  | .non => true
  | .bl _ => true
  | .int _ => true
  | .str _ => true
  | _ => false
noncomputable def eqV : V → V → Bool
  | .non, .non => true
  | .bl a, .bl b => a == b
  | .bl a, .int b => (if a then 1 else 0) == b
  | .int a, .bl b => a == (if b then 1 else 0)
  | .int a, .int b => a == b
  | .str a, .str b => a == b
  | _, _ => false
theorem z5H {A : Around} {s : Shared} {y x : V} {u v : Value} (ry : RelV y u) (rx : RelV x v) (fy : kg y = true) (fx : kg x = true) : SeqAt.EqAt A s u v (eqV y x) := by
  cases y with
  | non =>
    cases ry;cases x with
    | non => cases rx; exact SeqAt.EqAt.same _
    | bl b => cases rx; exact SeqAt.EqAt.none_bool b
    | int b => obtain ⟨t, rfl⟩ := rx; exact SeqAt.EqAt.none_int b t
    | str b => obtain ⟨t, rfl⟩ := rx; exact SeqAt.EqAt.none_str b t
    | _ => exact absurd (show false = true from fx) Bool.false_ne_true
  | bl a =>
    cases ry;cases x with
    | non => cases rx; exact SeqAt.EqAt.bool_none a
    | bl b => cases rx; exact SeqAt.EqAt.bool_bool a b
    | int b => obtain ⟨t, rfl⟩ := rx; exact SeqAt.EqAt.bool_int a b t
    | str b => obtain ⟨t, rfl⟩ := rx; exact SeqAt.EqAt.bool_str a b t
    | _ => exact absurd (show false = true from fx) Bool.false_ne_true
  | int a =>
    obtain ⟨t', rfl⟩ := ry;cases x with
    | non => cases rx; exact SeqAt.EqAt.int_none a t'
    | bl b => cases rx; exact SeqAt.EqAt.int_bool a t' b
    | int b => obtain ⟨t, rfl⟩ := rx; exact SeqAt.EqAt.int_int a t' b t
    | str b => obtain ⟨t, rfl⟩ := rx; exact SeqAt.EqAt.int_str a t' b t
    | _ => exact absurd (show false = true from fx) Bool.false_ne_true
  | str a =>
    obtain ⟨t', rfl⟩ := ry;cases x with
    | non => cases rx; exact SeqAt.EqAt.str_none a t'
    | bl b => cases rx; exact SeqAt.EqAt.str_bool a t' b
    | int b => obtain ⟨t, rfl⟩ := rx; exact SeqAt.EqAt.str_int a t' b t
    | str b => obtain ⟨t, rfl⟩ := rx; exact SeqAt.EqAt.str_str a t' b t
    | _ => exact absurd (show false = true from fx) Bool.false_ne_true
  | _ => exact absurd (show false = true from fy) Bool.false_ne_true
noncomputable def eqU (x : V) (u : Value) : Bool := match u with
  | .none => eqV .non x
  | .bool b => eqV (.bl b) x
  | .int i _ => eqV (.int i) x
  | .str z _ => eqV (.str z) x
  | _ => false
theorem z4u {x y : V} {u : Value} (r : RelV y u) (f : kg y = true) : eqU x u = eqV y x := by
  cases y with
  | non => cases r; rfl
  | bl b => cases r; rfl
  | int i => obtain ⟨t, rfl⟩ := r; rfl
  | str z => obtain ⟨t, rfl⟩ := r; rfl
  | _ => exact absurd (show false = true from f) Bool.false_ne_true
theorem z1n {x : V} : ∀ {xs : List V} {us : List Value}, zP xs us → xs.all kg = true → us.any (eqU x) = xs.any fun y => eqV y x
  | _, _, .nil, _ => rfl
  | y :: xs, u :: us, .cons r t, f => by
    rw [List.all_cons, Bool.and_eq_true] at f;rw [List.any_cons, List.any_cons, z4u r f.1, z1n t f.2]
theorem z0l {A : Around} {s : Shared} {x : V} {v : Value} (rx : RelV x v) (fx : kg x = true) : ∀ {xs : List V} {us : List Value}, zP xs us → xs.all kg = true → ∀ u ∈ us, SeqAt.EqAt A s u v (eqU x u)
  | _, _, .nil, _ => fun u hu => by cases hu
  | y :: xs, u :: us, .cons r t, f => fun u' hu => by
    rw [List.all_cons, Bool.and_eq_true] at f;rcases List.mem_cons.mp hu with rfl | hu
    · rw [z4u r f.1]; exact z5H r rx f.1 fx
    · exact z0l rx fx t f.2 u' hu
noncomputable def inV (x : V) (xs : List V) : Bool := xs.any fun y => eqV y x
noncomputable def rIn (K : PySem.W.Frag) (neg : Bool) : R2 := fun x y H Q => ∃ p xs, y = .ref p ∧ (SqL K H p xs ∨ SqT K H p xs) ∧ kg x = true ∧ xs.all kg = true ∧ Q (.bl (if neg then !inV x xs else inV x xs)) H
theorem z0P : OpR X (compareOp .In) (rIn X.K false) := by
  intro pins s σ H x y v u Q I rx ry h;obtain ⟨p, xs, rfl, hq, fx, fs, q⟩ := h;cases ry;rcases hq with hq | hq
  · obtain ⟨its, r, pl, hz⟩ := I.list hq;refine SeqAt.in_listAt (eqU x) pl.isList (fun w hw => z0l rx fx r fs w (by simpa using hw)) ⟨.bl _, H, I, rfl, ?_⟩;rw [show its.toArray.any (eqU x) = its.any (eqU x) by simp, z1n r fs];exact q
  · obtain ⟨its, r, pl, hz⟩ := I.tuple hq;refine SeqAt.in_tupleAt (eqU x) pl (fun w hw => z0l rx fx r fs w (by simpa using hw)) ⟨.bl _, H, I, rfl, ?_⟩;rw [show its.toArray.any (eqU x) = its.any (eqU x) by simp, z1n r fs];exact q
theorem kR : OpR X (compareOp .NotIn) (rIn X.K true) := by
  intro pins s σ H x y v u Q I rx ry h;obtain ⟨p, xs, rfl, hq, fx, fs, q⟩ := h;cases ry;rcases hq with hq | hq
  · obtain ⟨its, r, pl, hz⟩ := I.list hq;refine SeqAt.notIn_listAt (eqU x) pl.isList (fun w hw => z0l rx fx r fs w (by simpa using hw)) ⟨.bl _, H, I, rfl, ?_⟩;rw [show its.toArray.any (eqU x) = its.any (eqU x) by simp, z1n r fs];exact q
  · obtain ⟨its, r, pl, hz⟩ := I.tuple hq;refine SeqAt.notIn_tupleAt (eqU x) pl (fun w hw => z0l rx fx r fs w (by simpa using hw)) ⟨.bl _, H, I, rfl, ?_⟩;rw [show its.toArray.any (eqU x) = its.any (eqU x) by simp, z1n r fs];exact q
theorem zu : kf X (.builtin "len") (fun xs H Q => ∃ p ys, xs = [.ref p] ∧ (SqL X.K H p ys ∨ SqT X.K H p ys) ∧ Q (.int ys.length) H) := by
  intro pins s σ H xs us Q I r h;obtain ⟨p, ys, rfl, hq, q⟩ := h;obtain ⟨u, rfl, rx⟩ := vals1 r;cases rx;have hn := z1f;rcases hq with hq | hq
  · obtain ⟨its, r', pl, hz⟩ := I.list hq;have hlen := r'.length;exact Calls.call_len_list pl.isList (by simp only [List.size_toArray] <;> omega) ⟨.int ys.length, H, I.tok _, ⟨s.toks + 1, by rw [List.size_toArray, hlen]⟩, q⟩
  · obtain ⟨its, r', pl, hz⟩ := I.tuple hq;have hlen := r'.length;exact len_tuple pl (by simp only [List.size_toArray] <;> omega) ⟨.int ys.length, H, I.tok _, ⟨s.toks + 1, by rw [List.size_toArray, hlen]⟩, q⟩
theorem yR : kf X (.type "list") (fun xs H Q => ∃ p ys, xs = [.ref p] ∧ (SqL X.K H p ys ∨ SqT X.K H p ys) ∧ ∀ l, H l = none → Q (.ref l) (upd H l (.lst ys))) := by
  intro pins s σ H xs us Q I r h;obtain ⟨p, ys, rfl, hq, q⟩ := h;obtain ⟨u, rfl, rx⟩ := vals1 r;cases rx;have fin : ∀ (its : List Value), zP ys its → ys.length ≤ sizeLine → ∀ (h' : Heap) (c' : Nat), (∀ b o', s.heap.get? b = some o' → h'.get? b = some o') →
      h'.get? s.heap.objs.size = some { cls := .type "list", dict := none, data := .seq its.toArray c', slots := #[] } → EP X pins σ Q (.ref s.heap.objs.size) { s with heap := h' } := fun its r' hz h' c' kp e =>
    ⟨.ref s.heap.objs.size, _, I.laid (t' := s.toks) kp (Nat.le_refl _) (show jy X.prog X.w _ h' _ (.lst ys) from ⟨hz, its, c', r', e⟩), rfl, q _ (I.hok.fresh (Nat.le_refl _))⟩
  rcases hq with hq | hq
  · obtain ⟨its, r', pl, hz⟩ := I.list hq;have hlen := r'.length;obtain ⟨o, ho, hc, n, hd⟩ := pl.isList;exact call_list_seq p (.inl rfl) ho hc hd (fun h' c' kp e => fin its r' hz h' c' kp e) (by simp only [List.size_toArray] <;> omega)
  · obtain ⟨its, r', pl, hz⟩ := I.tuple hq;have hlen := r'.length;obtain ⟨o, ho, hc, n, hd⟩ := pl;exact call_list_seq p (.inr rfl) ho hc hd (fun h' c' kp e => fin its r' hz h' c' kp e) (by simp only [List.size_toArray] <;> omega)
theorem z3v : kf X (.type "tuple") (fun xs H Q => ∃ p ys, xs = [.ref p] ∧ ((SqL X.K H p ys ∧ ∀ l, H l = none → Q (.ref l) (upd H l (.tup ys))) ∨ (SqT X.K H p ys ∧ Q (.ref p) H))) := by
  intro pins s σ H xs us Q I r h;obtain ⟨p, ys, rfl, h⟩ := h;obtain ⟨u, rfl, rx⟩ := vals1 r;cases rx;rcases h with ⟨hq, q⟩ | ⟨hq, q⟩
  · obtain ⟨its, r', pl, hz⟩ := I.list hq;have hlen := r'.length;refine call_tuple_list pl.isList (fun h' kp => ?_) (by simp only [List.size_toArray] <;> omega);have I1 : Inv X pins σ H { s with heap := h' } := I.kept (t' := s.toks) kp;have I2 : Inv X pins σ (upd H h'.objs.size (.tup ys)) { s with heap := h'.push { cls := .type "tuple", data := .seq its.toArray } } :=
      I1.laid (t' := s.toks) (fun b o e => Heap.get?_push_of_some _ e) (Nat.le_refl _) (show jy X.prog X.w _ _ _ (.tup ys) from ⟨hz, its, r', IsTup.new _ _⟩)
    exact ⟨.ref h'.objs.size, _, I2, rfl, q _ (I1.hok.fresh (Nat.le_refl _))⟩
  · obtain ⟨its, r', pl, hz⟩ := I.tuple hq;exact call_tuple_same pl ⟨.ref p, H, I, rfl, q⟩
noncomputable def tyV (K : PySem.W.Frag) (T : String) (x : V) (H : Hp) : Prop := match x with
  | .str _ => T = "str"
  | .int _ => T = "int"
  | .ref p => (T = "list" ∧ ∃ xs, SqL K H p xs) ∨ (T = "tuple" ∧ ∃ o, K.lookup p = some o ∧ o.cls = .type "tuple" ∧ o.dict = none) ∨
      (T = "dict" ∧ ((∃ kvs, H p = some (.dK kvs)) ∨ ∃ kvs, H p = some (.dT kvs))) ∨ (T = "set" ∧ ∃ S n, H p = some (.set S n))
  | _ => False
theorem z8k {pins : List (Addr × Obj)} {σ : St} {H : Hp} {s : Shared} {T : String} {x : V} {v : Value} (I : Inv X pins σ H s) (r : RelV x v) (ty : tyV X.K T x H) :
    s.TypeIs v T ∧ ∀ a, v = .ref a → ∃ ob, s.heap.get? a = some ob ∧ ob.dict = none := by
  cases x with
  | str z =>
    obtain ⟨t, rfl⟩ := r;cases (show T = "str" from ty);exact ⟨typeIs_str s z t, fun _ e => nomatch e⟩
  | int i =>
    obtain ⟨t, rfl⟩ := r;cases (show T = "int" from ty);exact ⟨typeIs_int s i t, fun _ e => nomatch e⟩
  | ref p =>
    cases r;rcases ty with ⟨rfl, xs, hq⟩ | ⟨rfl, o, hk, hc, hd⟩ | ⟨rfl, hk⟩ | ⟨rfl, S, n, hk⟩
    · obtain ⟨its, _, pl, _⟩ := I.list hq;refine ⟨pl.isList.typeIs, fun a e => ?_⟩;cases e;obtain ⟨o, n, e, c, hd, _⟩ := pl;exact ⟨o, e, hd⟩
    · refine ⟨⟨o, I.kIn p o hk, hc⟩, fun a e => ?_⟩;cases e;exact ⟨o, I.kIn _ o hk, hd⟩
    · have z : ∃ o, s.heap.get? p = some o ∧ o.ExactDict := by
        rcases hk with ⟨kvs, hk⟩ | ⟨kvs, hk⟩
        · obtain ⟨_, _, _, _, o, _, _, e, ex, _⟩ := I.hok p _ hk;exact ⟨o, e, ex⟩
        · obtain ⟨_, _, _, _, o, _, _, e, ex, _⟩ := I.hok p _ hk;exact ⟨o, e, ex⟩
      obtain ⟨o, e, ex⟩ := z;refine ⟨⟨o, e, ex.1⟩, fun a e2 => ?_⟩;cases e2;exact ⟨o, e, ex.2.1⟩
    · obtain ⟨o, _, _, _, e, ex, _⟩ := I.hok p _ hk;refine ⟨⟨o, e, ex.1⟩, fun a e2 => ?_⟩;cases e2;exact ⟨o, e, ex.2.1⟩
  | _ => exact False.elim ty
noncomputable def zbe (K : PySem.W.Frag) (T : String) (r : V → List V → Hp → VK → Prop) (to : TE) : TE := fun σ H Q => to σ H fun x H1 => tyV K T x H1 ∧ r x [] H1 Q
noncomputable def tBM (K : PySem.W.Frag) (T : String) (r : V → List V → Hp → VK → Prop) (to : TE) (t : TA) : TE := fun σ H Q => to σ H fun x H1 => tyV K T x H1 ∧ t σ H1 fun xs H2 => r x xs H2 Q
variable {o e : Expr} {es : List Expr} {to : TE} {t : TA} {name : Str} {apos cpos : Pos} {T id : String} {r : V → List V → Hp → VK → Prop}
theorem z4s (pa : PlainAttrs T) (slot : Slot T name id) (hty : typeOf (.builtin id) = pure (.type "method_descriptor")) (hm : MtR X id r) (ho : PE X o to)
    (hbase : attributeBase o name X.env (eval o X.env) = eval o X.env := by rfl) (hline : (apos.endLine == cpos.line) = true := by rfl) : PE X (.Call (.Attribute o name apos) [] [] cpos) (zbe X.K T r to) := by
  intro pins s σ H Q I h;refine wpAny_Call_method0_late hbase hline (thn (ho pins s σ H _ I h) fun v s1 ⟨x, H1, I1, r1, ty, q1⟩ => ?_);obtain ⟨h1, h2⟩ := z8k I1 r1 ty;exact ⟨T, id, pa, slot, hty, h1, h2, Calls.callWith_builtin rfl (PySem.evalArgs_none (hm pins s1 σ H1 x [] v [] Q I1 r1 .nil q1))⟩
theorem jF (pa : PlainAttrs T) (slot : Slot T name id) (hty : typeOf (.builtin id) = pure (.type "method_descriptor")) (hm : MtR X id r) (ho : PE X o to) (ha : PA X (e :: es) t)
    (hbase : attributeBase o name X.env (eval o X.env) = eval o X.env := by rfl)
    (hfew : ((backTo cpos (starEach (e :: es) X.env)).all (fun x => !x.1) && (backToKw cpos (keywordEach [] X.env)).all (fun x => x.1.isSome)
      && decide ((e :: es).length + ([] : List Keyword).length + (if ([] : List Keyword).isEmpty then 0 else 1) < 30)) = true := by rfl)
    (hline : (apos.endLine == cpos.line) = true := by rfl) (hs : starEach (e :: es) X.env = (false, eval e X.env) :: starEach es X.env := by rfl) (hplain : (backTo cpos (starEach es X.env)).any (·.1) = false := by rfl) :
    PE X (.Call (.Attribute o name apos) (e :: es) [] cpos) (tBM X.K T r to t) := by
  intro pins s σ H Q I h;refine wpAny_Call_method_late hbase hfew hline rfl (thn (ho pins s σ H _ I h) fun v s1 ⟨x, H1, I1, r1, ty, q1⟩ => ?_);obtain ⟨h1, h2⟩ := z8k I1 r1 ty;refine ⟨T, id, pa, slot, hty, h1, h2, ?_⟩;have hA := ha cpos pins s1 σ H1 _ I1 q1;rw [hs] at hA ⊢;refine Calls.callWith_builtin (by show (false || (backTo cpos (starEach es X.env)).any (·.1)) = false; rw [hplain] <;> rfl) (Calls.evalArgs_plain ?_);exact thn hA fun us s2 ⟨vs, H2, I2, r2, q2⟩ => hm pins s2 σ H2 x vs v us Q I2 r1 r2 q2
end
end L2
namespace L2
open PySem PySem.Spec PyProof.Rows
noncomputable def MtM (X : Cx) (id : String) (r : V → List V → Hp → VK → Prop) : Prop :=
  ∀ (pins : List (Addr × Obj)) (s : Shared) (σ : St) (H : Hp) (x : V) (xs : List V) (v : Value) (us : List Value) (Q : VK), Inv X pins σ H s → RelV x v → zP xs us → r x xs H Q →
    wpAny (model X.prog X.w) X.A (call (.builtin id) (v :: us)) (EP X pins σ Q) X.xe s
theorem zP.one : ∀ {x : V} {us : List Value}, zP [x] us → ∃ u, us = [u] ∧ RelV x u
  | _, _, .cons r .nil => ⟨_, rfl, r⟩
theorem zP.zero : ∀ {us : List Value}, zP [] us → us = []
  | _, .nil => rfl
theorem zP.dropLast {xs : List V} {us : List Value} (h : zP xs us) : zP xs.dropLast us.dropLast := by
  induction h with
  | nil => exact .nil
  | cons r t ih =>
    cases t with
    | nil => exact .nil
    | cons q t' => exact .cons r ih
theorem z6c {α : Type} (l : List α) : l.eraseIdx (l.length - 1) = l.dropLast := by
  induction l with
  | nil => rfl
  | cons a r ih =>
    cases r with
    | nil => rfl
    | cons b r =>
      have e : (a :: b :: r).length - 1 = ((b :: r).length - 1) + 1 := by
        have h1 : (a :: b :: r).length = r.length + 2 := rfl;have h2 : (b :: r).length = r.length + 1 := rfl;omega
      rw [e, List.eraseIdx_cons_succ, ih]
      all_goals rfl
section
variable {X : Cx} {pins : List (Addr × Obj)} {σ : St} {H : Hp} {s : Shared} {l b : Addr} {xs ys zs : List V}
theorem Inv.lset {its its' : List Value} {n : Nat} {f : Array Value → Array Value} {t' : Nat} (I : Inv X pins σ H s) (hH : H l = some (.lst xs))
    (e : s.heap.get? l = some { cls := .type "list", data := .seq its.toArray n }) (hf : f its.toArray = its'.toArray) (hv : zP ys its') (hz : ys.length ≤ sizeLine) :
    Inv X pins σ (upd H l (.lst ys)) { s with heap := s.heap.update l (Obj.mapSeq f), toks := t' } := by
  have q := PySem.IsL.update e f;rw [hf] at q;refine I.write (x := l) (e := l) (by rw [hH]; exact trivial) (.inl rfl) (fun b' u hb hu => (Heap.get?_update_other s.heap (Obj.mapSeq f) (Ne.symm hb)).trans hu) ⟨_, q⟩ ?_;exact ⟨hz, its', _, hv, q⟩
theorem Inv.lnew {its : List Value} {t' : Nat} (I : Inv X pins σ H s) (hv : zP ys its) (hz : ys.length ≤ sizeLine) :
    Inv X pins σ (upd H s.heap.objs.size (.lst ys)) { s with heap := s.heap.push { cls := .type "list", data := .seq its.toArray }, toks := t' } :=
  I.laid (fun _ _ q => Heap.get?_push_of_some _ q) (Nat.le_refl _) ⟨hz, its, 0, hv, Heap.get?_push_size _ rfl⟩
theorem Inv.fresh (I : Inv X pins σ H s) : H s.heap.objs.size = none := I.hok.fresh (Nat.le_refl _)
theorem Inv.lstM (I : Inv X pins σ H s) (hH : H l = some (.lst xs)) : xs.length ≤ sizeLine ∧ ∃ (its : List Value) (n : Nat), zP xs its ∧ xs.length = its.length ∧ s.heap.get? l = some { cls := .type "list", data := .seq its.toArray n } := by
  obtain ⟨z, its, n, r, e⟩ := I.hok l _ hH;exact ⟨z, its, n, r, r.length, e⟩
theorem z80 {n : Nat} (h : n ≤ sizeLine) : Builtin.List.listTooLong n = false := by
  unfold Builtin.List.listTooLong;exact decide_eq_false (by omega)
end
section
variable {X : Cx}
noncomputable def z9o : V → List V → Hp → VK → Prop := fun x vs H Q => ∃ l xs y, x = .ref l ∧ vs = [y] ∧ H l = some (.lst xs) ∧ xs.length < sizeLine ∧ Q .non (upd H l (.lst (xs ++ [y])))
theorem jz : MtM X "list.append" z9o := by
  intro pins s σ H x vs v us Q I rx rv h;obtain ⟨l, xs, y, rfl, rfl, hH, hz, q⟩ := h;cases rx;obtain ⟨u, rfl, ru⟩ := rv.one;obtain ⟨z, its, n, r, hl, e⟩ := I.lstM hH;refine call_meets F.slot_list_append ⟨_, e, rfl⟩ F.entry_list_append (F.args_list_append_2 _ _) (PySem.list_append l its.toArray n u (by rw [List.size_toArray]; omega)) ⟨e, ?_⟩;refine ⟨.non, _, I.lset (its' := its ++ [u]) hH e (by simp) (r.append (.cons ru .nil)) ?_, rfl, q⟩;rw [List.length_append, List.length_singleton];omega
noncomputable def z90 : V → List V → Hp → VK → Prop := fun x vs H Q => ∃ l b xs zs, x = .ref l ∧ vs = [.ref b] ∧ H l = some (.lst xs) ∧ H b = some (.lst zs) ∧ xs.length + zs.length ≤ sizeLine ∧ Q .non (upd H l (.lst (xs ++ zs)))
theorem z47 : MtM X "list.extend" z90 := by
  intro pins s σ H x vs v us Q I rx rv h;obtain ⟨l, b, xs, zs, rfl, rfl, hH, hB, hz, q⟩ := h;cases rx;obtain ⟨u, rfl, ru⟩ := rv.one;cases ru;obtain ⟨z, its, n, r, hl, e⟩ := I.lstM hH;obtain ⟨z2, its2, n2, r2, hl2, e2⟩ := I.lstM hB;have hsz : its.toArray.size + its2.toArray.size ≤ sizeLine := by rw [List.size_toArray, List.size_toArray]; omega
  have hlong : ¬ (!its.toArray.isEmpty && Builtin.List.listTooLong (its.toArray.size + its2.toArray.size)) = true := by
    rw [z80 hsz, Bool.and_false];exact Bool.false_ne_true
  refine call_meets F.slot_list_extend ⟨_, e, rfl⟩ F.entry_list_extend (F.args_list_extend_2 _ _)
    (AutoSeq1.list_extend_list_list_0 l its.toArray n b its2.toArray n2 hlong (by rw [List.size_toArray]; omega) (by omega)) ⟨e, e2, ?_⟩
  refine ⟨.non, _, I.lset (its' := its ++ its2) hH e (by simp) (r.append r2) ?_, rfl, q⟩;rw [List.length_append];omega
noncomputable def zaU : V → List V → Hp → VK → Prop := fun x vs H Q => ∃ l xs y, x = .ref l ∧ vs = [] ∧ H l = some (.lst xs) ∧ xs[xs.length - 1]? = some y ∧ Q y (upd H l (.lst xs.dropLast))
theorem z4d : MtM X "list.pop" zaU := by
  intro pins s σ H x vs v us Q I rx rv h;obtain ⟨l, xs, y, rfl, rfl, hH, hy, q⟩ := h;cases rx;have hus := rv.zero;subst hus;obtain ⟨z, its, n, r, hl, e⟩ := I.lstM hH;obtain ⟨u, hu, ru⟩ := r.get hy;have hy' : its.toArray[its.toArray.size - 1]? = some u := by
    show its.toArray[its.length - 1]? = some u
    rw [← Array.getElem?_toList, ← hl];exact hu
  refine call_meets F.slot_list_pop ⟨_, e, rfl⟩ F.entry_list_pop (F.args_list_pop_1 _) (MeetsSeq.list_pop_last l its.toArray n u hy' (by rw [List.size_toArray]; omega)) ⟨e, ?_⟩;refine ⟨y, _, I.lset (its' := its.dropLast) hH e ?_ r.dropLast ?_, ru, q⟩
  · show its.toArray.eraseIdxIfInBounds (its.toArray.size - 1) = its.dropLast.toArray
    rw [List.size_toArray, List.eraseIdxIfInBounds_toArray, z6c]
  · rw [List.length_dropLast];omega
noncomputable def zb0 : R2 := fun x y H Q => ∃ l b xs zs, x = .ref l ∧ y = .ref b ∧ H l = some (.lst xs) ∧ H b = some (.lst zs) ∧ xs.length + zs.length ≤ sizeLine ∧ ∀ p, H p = none → Q (.ref p) (upd H p (.lst (xs ++ zs)))
theorem yS : OpR X (binaryOp .Add) zb0 := by
  intro pins s σ H x y v u Q I rx ry h;obtain ⟨l, b, xs, zs, rfl, rfl, hH, hB, hz, q⟩ := h;cases rx;cases ry;obtain ⟨z, its, n, r, hl, e⟩ := I.lstM hH;obtain ⟨z2, its2, n2, r2, hl2, e2⟩ := I.lstM hB;refine PySem.P.add_list e e2 ?_ (by rw [List.size_toArray, List.size_toArray]; omega);have ea : its.toArray ++ its2.toArray = (its ++ its2).toArray := by simp
  rw [ea];exact ⟨.ref _, _, I.lnew (t' := s.toks) (r.append r2) (by rw [List.length_append]; omega), rfl, q _ I.fresh⟩
end
end L2
namespace L2
open PySem PySem.Spec PyProof.Rows
section
variable {κ : Type} [DecidableEq κ]
noncomputable def jL (kvs : List (κ × V)) (k : κ) : Option V := (kvs.find? fun kv => decide (kv.1 = k)).map (·.2)
noncomputable def putK (kvs : List (κ × V)) (k : κ) (v : V) : List (κ × V) :=
  if (kvs.any fun kv => decide (kv.1 = k)) = true then kvs.map (fun kv => if kv.1 = k then (kv.1, v) else kv) else kvs ++ [(k, v)]
theorem yn {p : κ × V} {r : List (κ × V)} {k : κ} (e : p.1 = k) : jL (p :: r) k = some p.2 := by simp [jL, List.find?_cons, e]
theorem ym {p : κ × V} {r : List (κ × V)} {k : κ} (e : ¬ p.1 = k) : jL (p :: r) k = jL r k := by simp [jL, List.find?_cons, e]
theorem kC (k : κ) : ∀ kvs : List (κ × V), (kvs.any fun kv => decide (kv.1 = k)) = (jL kvs k).isSome
  | [] => rfl
  | p :: r => by
    rw [List.any_cons];by_cases e : p.1 = k
    · simp only [yn e, decide_eq_true e, Bool.true_or, Option.isSome_some]
    · rw [ym e, decide_eq_false e, Bool.false_or]; exact kC k r
theorem z5x (k j : κ) (y : V) : ∀ kvs : List (κ × V), jL (kvs.map fun kv => if kv.1 = k then (kv.1, y) else kv) j = (jL kvs j).map fun x => if j = k then y else x
  | [] => rfl
  | p :: r => by
    have ih := z5x k j y r;rw [List.map_cons];by_cases h : p.1 = k
    · rw [if_pos h];by_cases e : p.1 = j
      · rw [yn (p := (p.1, y)) e, yn e, Option.map_some, if_pos (e.symm.trans h)]
      · rw [ym (p := (p.1, y)) e, ym e, ih]
    · rw [if_neg h];by_cases e : p.1 = j
      · rw [yn (p := p) e, yn e, Option.map_some, if_neg (fun z => h (e.trans z))]
      · rw [ym (p := p) e, ym e, ih]
theorem z46 (k j : κ) (y : V) : ∀ kvs : List (κ × V), jL kvs k = none → jL (kvs ++ [(k, y)]) j = if j = k then some y else jL kvs j
  | [], _ => by
    by_cases e : k = j
    · rw [if_pos e.symm]; exact yn (p := (k, y)) e
    · rw [if_neg (fun z => e z.symm)]; exact ym (p := (k, y)) e
  | p :: r, hn => by
    rw [List.cons_append];have hk : ¬ p.1 = k := fun z => by rw [yn z] at hn; cases hn
    rw [ym hk] at hn;have ih := z46 k j y r hn;by_cases e : p.1 = j
    · rw [yn e, yn e, if_neg (fun z => hk (e.trans z))]
    · rw [ym e, ym e, ih]
theorem z32 (kvs : List (κ × V)) (k j : κ) (y : V) : jL (putK kvs k y) j = if j = k then some y else jL kvs j := by
  unfold putK;by_cases a : (kvs.any fun kv => decide (kv.1 = k)) = true
  · rw [if_pos a, z5x];rw [kC] at a;by_cases e : j = k
    · obtain ⟨x, hx⟩ := Option.isSome_iff_exists.mp a;rw [if_pos e, e, hx, Option.map_some, if_pos rfl]
    · rw [if_neg e];cases jL kvs j with
      | none => rfl
      | some x => rw [Option.map_some, if_neg e]
  · rw [if_neg a];refine z46 k j y kvs ?_;rw [kC] at a;cases q : jL kvs k with
    | none => rfl
    | some x => rw [q] at a; exact (a rfl).elim
theorem z0a (kvs : List (κ × V)) (k : κ) (v : V) : (putK kvs k v).length ≤ kvs.length + 1 := by
  unfold putK;split
  · rw [List.length_map]; omega
  · rw [List.length_append, List.length_cons, List.length_nil]; omega
theorem z57 {kvs : List (κ × V)} {k : κ} (v : V) (h : jL kvs k = none) : putK kvs k v = kvs ++ [(k, v)] := by
  unfold putK;rw [kC, h];exact if_neg (by decide)
theorem z28.isSome_eq {o : Option V} {u : Option Value} (r : z28 o u) : o.isSome = u.isSome := by
  cases o with
  | none => cases u with
    | none => rfl
    | some _ => exact (show False from r).elim
  | some _ => cases u with
    | none => exact (show False from r).elim
    | some _ => rfl
theorem z28.getD {o : Option V} {u : Option Value} {d : V} {d' : Value} (r : z28 o u) (rd : RelV d d') : RelV (o.getD d) (u.getD d') := by
  cases o with
  | none => cases u with
    | none => exact rd
    | some _ => exact (show False from r).elim
  | some _ => cases u with
    | none => exact (show False from r).elim
    | some _ => exact r
theorem KV.val {kvs : List (κ × V)} {vs : List (κ × Value)} (r : KV kvs vs) (k : κ) : z28 (jL kvs k) (valueAt vs k) := by
  unfold KV at r
  induction r with
  | nil => exact True.intro
  | @cons p q ps qs h t ih =>
    obtain ⟨h1, h2⟩ := h;by_cases e : p.1 = k
    · have e' : q.1 = k := h1.symm.trans e;have b : valueAt (q :: qs) k = some q.2 := by simp [valueAt, List.find?_cons, e']
      rw [yn e, b]; exact h2
    · have e' : ¬ q.1 = k := fun z => e (h1.trans z)
      have b : valueAt (q :: qs) k = valueAt qs k := by simp [valueAt, List.find?_cons, e']
      rw [ym e, b]; exact ih
theorem KV.any {kvs : List (κ × V)} {vs : List (κ × Value)} (r : KV kvs vs) (k : κ) : (kvs.any fun kv => decide (kv.1 = k)) = vs.any fun kv => decide (kv.1 = k) := by
  unfold KV at r
  induction r with
  | nil => rfl
  | cons h t ih => rw [List.any_cons, List.any_cons, ih, h.1]
theorem KV.repl {kvs : List (κ × V)} {vs : List (κ × Value)} (r : KV kvs vs) (k : κ) {y : V} {u : Value} (ry : RelV y u) :
    KV (kvs.map fun kv => if kv.1 = k then (kv.1, y) else kv) (vs.map fun kv => if kv.1 = k then (kv.1, u) else kv) := by
  unfold KV at r ⊢
  induction r with
  | nil => exact .nil
  | @cons p q ps qs h t ih =>
    rw [List.map_cons, List.map_cons];refine .cons ?_ ih;obtain ⟨h1, h2⟩ := h;by_cases e : p.1 = k
    · rw [if_pos e, if_pos (h1.symm.trans e)]; exact ⟨h1, ry⟩
    · rw [if_neg e, if_neg (fun z => e (h1.trans z))]; exact ⟨h1, h2⟩
theorem KV.put {kvs : List (κ × V)} {vs : List (κ × Value)} (r : KV kvs vs) (k : κ) {y : V} {u : Value} (ry : RelV y u) : KV (putK kvs k y) (stored vs k u) := by
  unfold putK stored;rw [r.any k];by_cases e : (vs.any fun kv => decide (kv.1 = k)) = true
  · rw [if_pos e, if_pos e]; exact r.repl k ry
  · rw [if_neg e, if_neg e]; exact Paired.snoc r ⟨rfl, ry⟩
theorem KV.keys {kvs : List (κ × V)} {vs : List (κ × Value)} (r : KV kvs vs) : kvs.map (·.1) = vs.map (·.1) := by
  unfold KV at r
  induction r with
  | nil => rfl
  | cons h t ih => rw [List.map_cons, List.map_cons, ih, h.1]
theorem KV.length {kvs : List (κ × V)} {vs : List (κ × Value)} (r : KV kvs vs) : kvs.length = vs.length := Paired.length r
end
theorem z5q {P : Program} {w : World} {k : Key} {u : Value} (r : RelV (kV k) u) : (jh P w).is k u = true := by
  cases k with
  | inl i => obtain ⟨t, e⟩ := (show ∃ t, u = Value.int i t from r); subst e; exact z54 P w i t
  | inr x => obtain ⟨t, e⟩ := (show ∃ t, u = Value.str x t from r); subst e; exact z53 P w x t
theorem z3J {P : Program} {w : World} : ∀ {ks : List Key} {us : List Value}, zP (ks.map kV) us → ItemsAre (jh P w) ks us
  | [], _, r => by rw [List.map_nil] at r; cases r; exact .nil
  | k :: ks, _, r => by
    rw [List.map_cons] at r;cases r with
    | cons h t => exact .cons (z5q h) (z3J t)
noncomputable abbrev KT (H : Hp) : List (List Key × V) → List (List Key × Addr × Value) → Prop := Paired fun p q => p.1 = q.1 ∧ H q.2.1 = some (.tup (p.1.map kV)) ∧ RelV p.2 q.2.2
theorem KT.val {H : Hp} {kvs : List (List Key × V)} {xs : List (List Key × Addr × Value)} (r : KT H kvs xs) (k : List Key) : z28 (jL kvs k) ((atKey xs k).map (·.2)) := by
  induction r with
  | nil => exact True.intro
  | @cons p q ps qs h t ih =>
    obtain ⟨h1, _, h2⟩ := h;by_cases e : p.1 = k
    · have e' : q.1 = k := h1.symm.trans e;have b : atKey (q :: qs) k = some q.2 := by simp [atKey, List.find?_cons, e']
      rw [yn e, b]; exact h2
    · have e' : ¬ q.1 = k := fun z => e (h1.trans z)
      have b : atKey (q :: qs) k = atKey qs k := by simp [atKey, List.find?_cons, e']
      rw [ym e, b]; exact ih
theorem KT.repl {H : Hp} {kvs : List (List Key × V)} {xs : List (List Key × Addr × Value)} (r : KT H kvs xs) (k : List Key) {y : V} {u : Value} (ry : RelV y u) :
    KT H (kvs.map fun kv => if kv.1 = k then (kv.1, y) else kv) (xs.map (putAt k u)) := by
  induction r with
  | nil => exact .nil
  | @cons p q ps qs h t ih =>
    rw [List.map_cons, List.map_cons];refine .cons ?_ ih;obtain ⟨h1, h2, h3⟩ := h;unfold putAt;by_cases e : p.1 = k
    · rw [if_pos e, if_pos (h1.symm.trans e)]; exact ⟨h1, h2, ry⟩
    · rw [if_neg e, if_neg (fun z => e (h1.trans z))]; exact ⟨h1, h2, h3⟩
theorem KT.put {H : Hp} {kvs : List (List Key × V)} {xs : List (List Key × Addr × Value)} (r : KT H kvs xs) (k : List Key) {b : Addr} {y : V} {u : Value} (hb : H b = some (.tup (k.map kV))) (ry : RelV y u) :
    KT H (putK kvs k y) (storedH xs k b u) := by
  have e : (kvs.any fun kv => decide (kv.1 = k)) = (atKey xs k).isSome := by
    rw [kC, (r.val k).isSome_eq, Option.isSome_map]
  unfold putK storedH;rw [e];by_cases q : (atKey xs k).isSome = true
  · rw [if_pos q, if_pos q]; exact r.repl k ry
  · rw [if_neg q, if_neg q]; exact Paired.snoc r ⟨rfl, hb, ry⟩
theorem KT.keeps {H H' : Hp} {kvs : List (List Key × V)} {xs : List (List Key × Addr × Value)} (r : KT H kvs xs) (ht : ∀ b ys, H b = some (.tup ys) → H' b = some (.tup ys)) : KT H' kvs xs :=
  Paired.mapP r fun _ _ z => ⟨z.1, ht _ _ z.2.1, z.2.2⟩
section
variable {P : Program} {w : World} {H : Hp} {h : Heap} {a : Addr}
theorem z9v {u : HO} (ok : HOk P w H h) (e : Rd H a u) : jy P w H h a u := e.ok ok
theorem z5u {kvs : List (Key × V)} (ok : HOk P w H h) (e : Rd H a (.dK kvs)) : kvs.length ≤ sizeLine ∧ (a == sysModules) = false ∧ ∃ vs, KV kvs vs ∧ h.DictOf (jh P w) a vs :=
  show jy P w H h a (.dK kvs) from z9v ok e
theorem z7w {kvs : List (Key × V)} (ok : HOk P w H h) (e : H a = some (.dK kvs)) : kvs.length ≤ sizeLine ∧ (a == sysModules) = false ∧ ∃ vs, KV kvs vs ∧ h.DictOf (jh P w) a vs := z5u ok (.inl e)
theorem z4a {ks : List Key} (ok : HOk P w H h) (e : H a = some (.tup (ks.map kV))) : (tupleKind (jh P w)).is h ks a := by
  obtain ⟨_, its, r, o, h1, h2, n, h3⟩ := (show jy P w H h a (.tup (ks.map kV)) from ok a _ e);exact ⟨o, its.toArray, n, h1, h2, h3, by simpa using z3J r⟩
theorem z4T {kvs : List (List Key × V)} (ok : HOk P w H h) (e : Rd H a (.dT kvs)) : kvs.length ≤ sizeLine ∧ (a == sysModules) = false ∧
    ∃ xs, KT H kvs xs ∧ h.DictOfH (tupleKind (jh P w)) a xs := by
  obtain ⟨z, y, xs, r, o, es, ep, h1, h2, h3, h4, h5⟩ := (show jy P w H h a (.dT kvs) from z9v ok e);refine ⟨z, y, xs, r, o, es, ep, h1, h2, h3, h4, fun x hx => ?_, h5⟩;have all : ∀ {l : List (List Key × V)} {m : List (List Key × Addr × Value)}, KT H l m → ∀ x ∈ m, (tupleKind (jh P w)).is h x.1 x.2.1 := by
    intro l m q
    induction q with
    | nil => intro x hx; exact nomatch hx
    | @cons p q ps qs hq t ih =>
      intro x hx;rcases List.mem_cons.mp hx with e | hx
      · subst e;exact z4a ok (by rw [← hq.1]; exact hq.2.1)
      · exact ih x hx
  exact all r x hx
theorem zag {kvs : List (List Key × V)} (ok : HOk P w H h) (e : H a = some (.dT kvs)) : kvs.length ≤ sizeLine ∧ (a == sysModules) = false ∧
    ∃ xs, KT H kvs xs ∧ h.DictOfH (tupleKind (jh P w)) a xs := z4T ok (.inl e)
end
noncomputable def z2m (H : Hp) (a : Addr) (y : V) (r : Option V) : Prop :=
  (∃ kvs k, Rd H a (.dK kvs) ∧ y = kV k ∧ r = jL kvs k) ∨ ∃ kvs k b, Rd H a (.dT kvs) ∧ y = .ref b ∧ H b = some (.tup (k.map kV)) ∧ r = jL kvs k
noncomputable def z5S (H : Hp) (a : Addr) (y v : V) (H' : Hp) : Prop :=
  (∃ kvs k, H a = some (.dK kvs) ∧ y = kV k ∧ kvs.length < sizeLine ∧ H' = upd H a (.dK (putK kvs k v))) ∨
  ∃ kvs k b, H a = some (.dT kvs) ∧ y = .ref b ∧ H b = some (.tup (k.map kV)) ∧ kvs.length < sizeLine ∧ H' = upd H a (.dT (putK kvs k v))
theorem z2m.k {H : Hp} {a : Addr} {kvs : List (Key × V)} {k : Key} (e : H a = some (.dK kvs)) : z2m H a (kV k) (jL kvs k) := .inl ⟨kvs, k, .inl e, rfl, rfl⟩
theorem z5S.k {H : Hp} {a : Addr} {kvs : List (Key × V)} {k : Key} {v : V} (e : H a = some (.dK kvs)) (hl : kvs.length < sizeLine) : z5S H a (kV k) v (upd H a (.dK (putK kvs k v))) := .inl ⟨kvs, k, e, rfl, hl, rfl⟩
section
variable {X : Cx} {pins : List (Addr × Obj)} {σ : St} {H : Hp} {s : Shared} {a : Addr} {y v : V} {u r : Value} {o : Option V} {A : Around} {E : Value → Shared → Prop}
theorem Inv.big (I : Inv X pins σ H s) : sysModules < s.heap.objs.size := by
  have h : mainGlobals < s.heap.objs.size := (I.mod.glob.keeps I.bk).lt;exact Nat.lt_trans (by decide) h
theorem z7l {Q : Value → Shared → Prop} (hu : A.units + 1 < cLine) (I : Inv X pins σ H s) (g : z2m H a y (some v)) (ry : RelV y u) (h : ∀ w' s', Inv X pins σ H s' → RelV v w' → Q w' s') :
    wpAny (model X.prog X.w) A (getItem (.ref a) u) Q E s := by
  rcases g with ⟨kvs, k, e, ey, l⟩ | ⟨kvs, k, b, e, ey, eb, l⟩
  · subst ey;obtain ⟨z, hd, vs, rel, dd⟩ := z5u I.hok e;obtain ⟨w', hw, rw'⟩ := z28.some_of (v := v) (o := valueAt vs k) (by rw [l]; exact rel.val k);exact wpAny_getItem_of (z5q ry) dd.mapOf hw (h w' _ (I.tok _) rw')
  · subst ey;cases (show u = Value.ref b from ry);obtain ⟨z, hd, xs, rel, dd⟩ := z4T I.hok e;obtain ⟨w', hw, rw'⟩ := z28.some_of (v := v) (o := (atKey xs k).map (·.2)) (by rw [l]; exact rel.val k);obtain ⟨p, hp, hp2⟩ := Option.map_eq_some_iff.mp hw;refine wpAny_getItem_heap (tupleKind_room_in1 hu) (z4a I.hok eb) dd hp ?_;rw [hp2];exact h w' _ (I.tok _) rw'
theorem z4F {h' : Heap} {t' : Nat} {ob : HO} (I : Inv X pins σ H s) (mu : Mut (H a)) (hs : Heap.SameBut a s.heap h') (he : ∃ q, h'.get? a = some q) (new : jy X.prog X.w (upd H a ob) h' a ob) :
    Inv X pins σ (upd H a ob) { s with heap := h', toks := t' } :=
  I.write (x := a) (e := a) mu (.inl rfl) (fun b q hb z => (hs.2 b hb).trans z) he new
theorem z7S {P : Program} {w : World} {H' : Hp} {h' : Heap} {kvs : List (Key × V)} {vs : List (Key × Value)} (z : kvs.length ≤ sizeLine) (hd : (a == sysModules) = false) (rel : KV kvs vs) (dd : h'.DictOf (jh P w) a vs) :
    jy P w H' h' a (.dK kvs) := ⟨z, hd, vs, rel, dd⟩
theorem z7s {H' : Hp} {Q : Unit → Shared → Prop} (hu : A.units + 1 < cLine) (I : Inv X pins σ H s) (g : z5S H a y v H') (ry : RelV y u) (rv : RelV v r) (h : ∀ s', Inv X pins σ H' s' → Q () s') :
    wpAny (model X.prog X.w) A (setItem (.ref a) u r) Q E s := by
  rcases g with ⟨kvs, k, e, ey, l, eH⟩ | ⟨kvs, k, b, e, ey, eb, l, eH⟩
  · subst ey eH;obtain ⟨z, hd, vs, rel, dd⟩ := z7w I.hok e;have hz : vs.length ≤ sizeLine := by rw [← rel.length]; exact z
    have hl : (putK kvs k v).length ≤ sizeLine := by have := z0a kvs k v; omega
    refine wpAny_setItem_pairs (hsz := hz) (z5q ry) dd fun h' dd' hs => h _ ?_
    have he : ∃ q, h'.get? a = some q := let ⟨q, _, _, hq, _⟩ := dd'; ⟨q, hq⟩
    exact z4F I (by rw [e]; exact True.intro) hs he (z7S hl hd (rel.put k rv) dd')
  · subst ey eH;cases (show u = Value.ref b from ry);obtain ⟨z, hd, xs, rel, dd⟩ := zag I.hok e;have hz : xs.length ≤ sizeLine := by rw [← Paired.length rel]; exact z
    have hl : (putK kvs k v).length ≤ sizeLine := by have := z0a kvs k v; omega
    refine wpAny_setItem_heap (hsz := hz) (tupleKind_room_in1 hu) (z4a I.hok eb) dd fun h' dd' hs => h _ ?_
    obtain ⟨q, es, ep, hq, h2, h3, h4, _, h5⟩ := dd';refine z4F I (by rw [e]; exact True.intro) hs ⟨q, hq⟩ ⟨hl, hd, _, (rel.put k eb rv).keeps fun c ys ec => ?_, q, es, ep, hq, h2, h3, h4, h5⟩;rw [zt (z2f ec e (fun z => nomatch z))];exact ec
end
noncomputable def zaG (i : Expr) : Prop := ∀ ov iv, subscripted i false ov iv = operate [ov, iv] (getItem ov iv)
theorem z94 {prog : Program} {w : World} {A : Around} {E : Value → Shared → Prop} {s : Shared} {env : Env} {value slice : Expr} {pos : Pos} {T id : String} {Q : Value → Shared → Prop}
    (hl : typeLookup (.type T) "__getitem__" = pure (some (.builtin id))) (hs : zaG slice)
    (h : wpAny (model prog w) A (eval value env) (fun o s₁ => wpAny (model prog w) A (eval slice env) (fun i s₂ => s₂.TypeIs o T ∧ wpAny (model prog w) A (getItem o i) Q E s₂) E s₁) E s) :
    wpAny (model prog w) A (eval (.Subscript value slice pos) env) Q E s := by
  refine Subscript_ (wpAny_mono h (fun o s₁ h₁ => wpAny_mono h₁ (fun i s₂ h₂ => ?_) fun _ _ x => x) fun _ _ x => x);obtain ⟨hT, h₂⟩ := h₂;unfold subscriptTail;refine wpAny_bind ?_;rw [getitemInPython_of_ne hT.not_modules];refine wpAny_bind (wpAny_specialOf hT hl ?_);have fin : wpAny (model prog w) A (subscripted slice false o i) (fun r s₃ => wpAny (model prog w) A (letTemporaryGo value o r >>= fun _ => pure r) Q E s₃) E s₂ := by
    rw [hs o i];exact wpAny_operating (wpAny_mono h₂ (fun r s₃ h₃ => wpAny_bind (wpAny_letTemporaryGo (wpAny_pure h₃))) fun _ _ x => x)
  first
    | exact wpAny_pure (wpAny_bind fin)
    | exact wpAny_bind (wpAny_pure (wpAny_bind fin))
    | exact wpAny_bind fin
theorem z5p {X : Cx} {pins : List (Addr × Obj)} {σ : St} {H : Hp} {s : Shared} {a : Addr} {y : V} {o : Option V} (I : Inv X pins σ H s) (g : z2m H a y o) : s.TypeIs (.ref a) "dict" := by
  rcases g with ⟨kvs, k, e, _, _⟩ | ⟨kvs, k, b, e, _, _, _⟩
  · obtain ⟨_, _, vs, _, dd⟩ := z5u I.hok e;exact dd.typeIs
  · obtain ⟨_, _, xs, _, dd⟩ := z4T I.hok e;exact dd.typeIs
noncomputable def zay (td ty : TE) : TE := fun σ H Q => td σ H fun x H1 => ty σ H1 fun y H2 => ∃ a v, x = .ref a ∧ z2m H2 a y (some v) ∧ Q v H2
noncomputable def zaR (td ty tv : TE) : TS := fun D σ H => tv σ H fun v H1 => td σ H1 fun x H2 => ty σ H2 fun y H3 => ∃ a H4, x = .ref a ∧ z5S H3 a y v H4 ∧ D.nx σ H4
section
variable {X : Cx} {o i e value : Expr} {pos pos' tpos : Pos} {td ty tv : TE}
theorem z6r (hu : X.A.units + 1 < cLine) (ho : PE X o td) (hi : PE X i ty) (hs : zaG i) : PE X (.Subscript o i pos) (zay td ty) := by
  intro pins s σ H Q I h;refine z94 PySem.F.slot_dict_getitem.lookup hs (thn (ho pins s σ H _ I h) fun u s1 ⟨x, H1, I1, rx, q1⟩ => thn (hi pins s1 σ H1 _ I1 q1) fun iv s2 ⟨y, H2, I2, ry, a, v, ex, g, q2⟩ => ?_);subst ex;obtain rfl : u = Value.ref a := rx;exact ⟨z5p I2 g, z7l hu I2 g ry fun w' s3 I3 rw' => ⟨v, H2, I3, rw', q2⟩⟩
theorem z4B (hu : X.A.units + 1 < cLine) (ho : PE X o td) (hi : PE X i ty) (hv : PE X value tv) (hs : swapsWith value (some (.Subscript o i pos')) pos.line X.env = pure false) :
    PS X (.Assign [.Subscript o i pos'] value pos) (zaR td ty tv) := by
  intro pins s σ H D I h;refine wpAny_Assign_Subscript (thn (hv pins s σ H _ I h) fun r s1 ⟨v, H1, I1, rv, q1⟩ => thn (ho pins s1 σ H1 _ I1 q1) fun u s2 ⟨x, H2, I2, rx, q2⟩ => thn (hi pins s2 σ H2 _ I2 q2) fun iv s3 ⟨y, H3, I3, ry, a, H4, ex, g, q3⟩ => ?_) hs;subst ex;obtain rfl : u = Value.ref a := rx;exact z7s hu I3 g ry rv fun s4 I4 => ⟨σ, H4, I4, q3⟩
end
theorem z8m {P : Program} {w : World} {H : Hp} (h : Heap) (hb : sysModules < h.objs.size) : jy P w H (h.push { cls := .type "dict", data := .dict #[] }) h.objs.size (.dK []) :=
  ⟨Nat.zero_le _, beq_eq_false_iff_ne.mpr (Ne.symm (Nat.ne_of_lt hb)), [], .nil, Heap.DictOf.new h⟩
noncomputable def z9L : TE := fun _ H Q => ∀ p, H p = none → Q (.ref p) (upd H p (.dK []))
section
variable {X : Cx} {pos : Pos}
theorem z1h : PE X (.Dict [] [] pos) z9L := fun pins s σ H Q I h =>
  wpAny_Dict_empty ⟨.ref s.heap.objs.size, _, I.laid (a := s.heap.objs.size) (o := .dK []) (t' := s.toks) (fun _ _ q => Heap.get?_push_of_some _ q) (Nat.le_refl _) (z8m s.heap I.big), rfl, h _ (I.hok.fresh (Nat.le_refl _))⟩
end
structure M1 (X : Cx) (o : Expr) (m : Str) (apos : Pos) (e : Expr) (cpos : Pos) : Prop where
  base : attributeBase o m X.env (eval o X.env) = eval o X.env
  few : ((backTo cpos (starEach [e] X.env)).all (fun x => !x.1) && (backToKw cpos (keywordEach [] X.env)).all (fun x => x.1.isSome)
    && decide (([e] : List Expr).length + ([] : List Keyword).length + (if ([] : List Keyword).isEmpty then 0 else 1) < 30)) = true
  line : (apos.endLine == cpos.line) = true
  trees : backTo cpos (starEach [e] X.env) = [(false, eval e X.env)]
structure M2 (X : Cx) (o : Expr) (m : Str) (apos : Pos) (e f : Expr) (cpos : Pos) : Prop where
  base : attributeBase o m X.env (eval o X.env) = eval o X.env
  few : ((backTo cpos (starEach [e, f] X.env)).all (fun x => !x.1) && (backToKw cpos (keywordEach [] X.env)).all (fun x => x.1.isSome)
    && decide (([e, f] : List Expr).length + ([] : List Keyword).length + (if ([] : List Keyword).isEmpty then 0 else 1) < 30)) = true
  line : (apos.endLine == cpos.line) = true
  trees : backTo cpos (starEach [e, f] X.env) = [(false, eval e X.env), (false, eval f X.env)]
noncomputable def IsD (H : Hp) (a : Addr) : Prop := (∃ kvs, Rd H a (.dK kvs)) ∨ ∃ kvs, Rd H a (.dT kvs)
theorem z87 {X : Cx} {pins : List (Addr × Obj)} {σ : St} {H : Hp} {s : Shared} {a : Addr} (I : Inv X pins σ H s) (d : IsD H a) :
    s.TypeIs (.ref a) "dict" ∧ (∀ b, Value.ref a = .ref b → ∃ ob, s.heap.get? b = some ob ∧ ob.dict = none) ∧ (a == sysModules) = false := by
  rcases d with ⟨kvs, e⟩ | ⟨kvs, e⟩
  · obtain ⟨_, hd, vs, _, dd⟩ := z5u I.hok e;refine ⟨dd.typeIs, fun b q => ?_, hd⟩;cases q;obtain ⟨ob, _, _, h1, h2, _⟩ := dd;exact ⟨ob, h1, h2.2.1⟩
  · obtain ⟨_, hd, xs, _, dd⟩ := z4T I.hok e;refine ⟨dd.typeIs, fun b q => ?_, hd⟩;cases q;obtain ⟨ob, _, _, h1, h2, _⟩ := dd;exact ⟨ob, h1, h2.2.1⟩
section
variable {X : Cx} {pins : List (Addr × Obj)} {σ : St} {H : Hp} {s : Shared} {a : Addr} {y d : V} {u r : Value} {o : Option V} {A : Around} {E : Value → Shared → Prop}
theorem z9I {Q : Value → Shared → Prop} (hu : A.units + 1 < cLine) (I : Inv X pins σ H s) (g : z2m H a y o) (ry : RelV y u) (rd : RelV d r) (h : ∀ w' s', Inv X pins σ H s' → RelV (o.getD d) w' → Q w' s') :
    wpAny (model X.prog X.w) A (call (.builtin "dict.get") [.ref a, u, r]) Q E s := by
  rcases g with ⟨kvs, k, e, ey, l⟩ | ⟨kvs, k, b, e, ey, eb, l⟩
  · subst ey;obtain ⟨z, hd, vs, rel, dd⟩ := z5u I.hok e;refine call_meetsIn PySem.F.slot_dict_get dd.typeIs PySem.F.entry_dict_get (PySem.F.args_dict_get_3 _ _ _) (meets_dict_get_default (jh X.prog X.w) a (z5q ry) hd r) ⟨_, dd.mapOf, h _ _ (I.tok _) ?_⟩;rw [l];exact (rel.val k).getD rd
  · subst ey;cases (show u = Value.ref b from ry);obtain ⟨z, hd, xs, rel, dd⟩ := z4T I.hok e;refine call_meetsIn PySem.F.slot_dict_get dd.typeIs PySem.F.entry_dict_get (PySem.F.args_dict_get_3 _ _ _) (meetsH_dict_get_default (tupleKind (jh X.prog X.w)) a b hd r) ⟨tupleKind_room_in1 hu, k, xs, z4a I.hok eb, dd, h _ _ (I.tok _) ?_⟩;rw [l];exact (rel.val k).getD rd
end
noncomputable def z9G (td ty tx : TE) : TE := fun σ H Q => td σ H fun x H1 => ∃ a, x = .ref a ∧ IsD H1 a ∧ ty σ H1 fun y H2 => tx σ H2 fun z H3 => ∃ o, z2m H3 a y o ∧ Q (o.getD z) H3
section
variable {X : Cx} {o e f : Expr} {apos cpos : Pos} {td ty tx : TE}
theorem z2T (hu : X.A.units + 1 < cLine) (ho : PE X o td) (he : PE X e ty) (hf : PE X f tx) (m : M2 X o "get" apos e f cpos) : PE X (.Call (.Attribute o "get" apos) [e, f] [] cpos) (z9G td ty tx) := by
  intro pins s σ H Q I h;refine wpAny_Call_method m.base m.few m.line PySem.F.plainAttrs_dict PySem.F.slot_dict_get PySem.F.type_dict_get (thn (ho pins s σ H _ I h) fun u s1 ⟨x, H1, I1, rx, a, ex, d, q1⟩ => ?_);subst ex;obtain rfl : u = Value.ref a := rx;obtain ⟨t1, t2, _⟩ := z87 I1 d;refine ⟨t1, t2, ?_⟩;rw [m.trees];refine Calls.callWith_builtin rfl (Calls.evalArgs_plain (Calls.spliced_cons (thn (he pins s1 σ H1 _ I1 q1) fun iv s2 ⟨y, H2, I2, ry, q2⟩ =>
    Calls.spliced_cons (thn (hf pins s2 σ H2 _ I2 q2) fun fv s3 ⟨z, H3, I3, rz, ov, g, q3⟩ => Calls.spliced_nil ?_))))
  exact z9I hu I3 g ry rz fun w' s4 I4 rw' => ⟨_, H3, I4, rw', q3⟩
end
end L2
namespace Att
open PySem PySem.W PySem.Calls PyProof.Rows
theorem z2l {P : Params} {h : Heap} : ∀ (ns : List Int) (vs : List Value), WellAll P h vs (ns.map WData.int) → IntsAre vs ns := by
  intro ns
  induction ns with
  | nil =>
    intro vs w;rw [List.map_nil] at w;cases w;exact .nil
  | cons n ns ih =>
    intro vs w;rw [List.map_cons] at w;cases w with
    | cons a b =>
      cases a;exact .cons _ _ (ih _ b)
theorem z6Y {l : OpenLaw} {n : Nat} (hn : l.most = some n) {P : Params} {h : Heap} {args : List WData} {vals : List Value}
    (hpre : l.row.toRowW.claim.pre args = true) (hwl : WellAll P h vals args) :
    ∃ a vs ns, vals = [Value.ref a] ∧ args = [WData.list (ns.map WData.int)] ∧ h.get? a = some { cls := .type "list", data := .seq vs.toArray } ∧ IntsAre vs ns ∧ ns.length ≤ n := by
  have hsh : WShape.hasAll [] args [.list .int] = true := (pre_splitW hpre).1;have hc : l.pre.holds [] { args := args } = true := (pre_splitW hpre).2;obtain ⟨d, r, rfl, h1, h2⟩ := hasAllW_cons hsh;obtain rfl := hasAllW_nil h2;obtain ⟨xs, rfl, h3⟩ := hasW_list h1;obtain ⟨ns, rfl⟩ := items_int h3;have hlen : ns.length ≤ n := by
    unfold OpenLaw.pre at hc;have h4 : (WTm.not (.lt (.lit (.int (n : Int))) (.len (.arg 0)))).holds [] { args := [.list (ns.map .int)] } = true := by
      have h4 := (holds_andW hc).1;rw [hn] at h4;exact h4
    have h5 := condW_of h4 (w_not (w_lt w_lit (w_len_list (w_arg rfl))));rw [List.length_map] at h5;refine Nat.le_of_not_lt fun q => ?_
    have q' : (n : Int) < ((ns.length : Nat) : Int) := by omega
    first
      | (rw [decide_eq_true q'] at h5; exact absurd h5 (by decide))
      | (simp at h5; omega)
  cases hwl with
  | cons w1 w2 =>
    cases w2;cases w1 with
    | list ho hall => exact ⟨_, _, ns, rfl, rfl, ho, z2l ns _ hall, hlen⟩
theorem z7j (l : OpenLaw) (args : List WData) : l.row.toRowW.claim.post args (.bool true) args = true :=
  postW_of (r := l.row.toRowW) (X := (true == true))
    (show WShape.has [] (.bool true) .bool = true by first | rfl | decide | simp [WShape.has, WShape.arms, WShape.armsAll])
    (show (WTm.eq .res (.lit (.bool true))).value [] { args := args, res := some (.bool true), after := args } = some (.bool (true == true)) from w_eq_bool (w_res rfl) w_lit) rfl
theorem attach_call {l : OpenLaw} {n : Nat} {q : Program} {loose : List Str} {XP : (Str → Option Value) → Heap → Prop} {YP : World → Heap → Prop} {d : DefRec}
    (hn : l.most = some n) (hdf : d.params.defaults = [])
    (call : ∀ (w : World) (s₀ s₁ : Shared) (mg mb : Str → Option Value) (fa : Addr) (o : Obj) (pm cd doc : Value) (a : Addr) (vs : List Value) (ns : List Int),
      Ground q loose [] XP w s₀ mg mb s₁.heap → YP w s₁.heap →
      s₁.heap.get? fa = some o → o.data = .func (docDef d.name d.params d.body d.scope pm cd doc) → s₁.heap.CodeRec cd d.name → mg d.name = some (.ref fa) →
      s₁.heap.get? a = some { cls := .type "list", data := .seq vs.toArray } → IntsAre vs ns → ns.length ≤ n → s₁.gens = #[] →
      codeAny (model l.prog w) callerA (.call (.ref fa) ⟨[.ref a], []⟩) (fun r s' => r = .ok (.ret (.bool true)) ∧ OldK s₁.heap s'.heap ∧ s'.os = s₁.os ∧ AllBare s'.gens) s₁) :
    WalkO q loose XP YP l.row.toRowW d [] (fun f vs => PySem.call f vs) := by
  intro w s₀ s₁ mg mb G Y fa o pm cd doc dV kV ho hd hcd hD hmg hg args vals as hpre hlay hrd hwl hlo;obtain rfl : dV = .none := Dflts.none hD hdf;obtain rfl : kV = .none := Dflts.noKw hD;obtain ⟨a, vs, ns, rfl, rfl, hobj, hints, hlen⟩ := z6Y hn hpre hwl;refine enter_call (codeAny_mono (call w s₀ s₁ mg mb fa o pm cd doc a vs ns G Y ho (fd_plain hd) hcd hmg hobj hints hlen hg) fun r s' hq => ?_);obtain ⟨rfl, h2, h3, h4⟩ := hq;exact ⟨.inl ⟨.bool true, .bool true, [], rfl, fun _ => rfl, .bool true, z7j l _, fun _ => ⟨List.Pairwise.nil, fun _ hm => (nomatch hm)⟩⟩, h2, h3, h4⟩
end Att
namespace L2
open PySem PySem.Spec PyProof.Rows
theorem z44 : ∀ {vs : List Value} {ns : List Int}, IntsAre vs ns → zP (ns.map V.int) vs
  | _, _, .nil => .nil
  | _, _, .cons n t h => .cons ⟨t, rfl⟩ (z44 h)
end L2
namespace L2
open PySem PySem.Spec PyProof.Rows
end L2
namespace L2
open PySem PySem.Spec PyProof.Rows
noncomputable def z0X (s : Stmt) : Arguments := match s with
  | .FunctionDef _ a _ _ _ _ _ _ _ _ => a
  | _ => { posonlyargs := [], args := [], vararg := none, kwonlyargs := [], kw_defaults := [], kwarg := none, defaults := [] }
noncomputable def yt (s : Stmt) : List Stmt := match s with
  | .FunctionDef _ _ b _ _ _ _ _ _ _ => b
  | _ => []
noncomputable def zl (s : Stmt) : Scope := match s with
  | .FunctionDef _ _ _ _ _ _ sc _ _ _ => sc
  | _ => { kind := .function, names := [], isGenerator := false, isCoroutine := false }
noncomputable abbrev CX0 : CXT := fun _ _ _ _ _ _ => False
noncomputable abbrev E0 : XK := fun _ _ _ => False
theorem z6F {X : Cx} : z3i CX0 X E0 := fun _ _ _ _ _ _ _ h => h.elim
structure Fun (K : PySem.W.Frag) (x qual : Str) (st : Stmt) (f : Addr) (fd : FuncData) : Prop where
  ex : ∃ (oc : Value) (od : Option Addr) (kV doc pm : Value) (an : Option Addr) (cdv ct : Value) (osl : Array (Option Value)),
    fd = PySem.W.fnOf x qual (z0X st) (yt st) (zl st) .none kV doc pm an cdv ct ∧ K.lookup f = some ⟨oc, od, .func fd, osl⟩ ∧ PySem.W.codeIn K cdv qual = true
  kp : PySem.W.keepIn K (.ref f) = true
section
variable {P : Program} {w : World} {K : PySem.W.Frag} {mg : Str → Option Value} {base : Heap}
theorem Fun.ok {x qual : Str} {st : Stmt} {f : Addr} {fd : FuncData} {N ps : List Str} {k : Nat} {sp : Sp} (F : Fun K x qual st f fd) (S : FnScope N ps (zl st)) (len : ∀ vs H Q E, sp vs H Q E → vs.length = ps.length)
    (hbody : ∀ (cdv : Value) (A : Around) (outer : List Env) (s : Shared) (H : Hp) (vs : List V) (Q : VK) (E : XK), Room k (A.deeper (envOfC qual (zl st) s.heap.objs.size f cdv)) → sp vs H Q E →
      ∃ t, PSs (z3d CX0 P w K mg base N qual (zl st) f cdv A outer s H E).nox (yt st) t ∧ t { nx := fun _ H' => Q .non H', rt := Q } (start N vs) H) : FnOk P w K mg base CX0 (k + 1) f fd ps sp := by
  obtain ⟨oc, od, kV, doc, pm, an, cdv, ct, osl, rfl, lk, hcd⟩ := F.ex;refine z9q lk hcd S len fun A outer s H vs Q E hr hsp => ?_
  obtain ⟨t, h, q⟩ := hbody cdv A outer s H vs Q E hr hsp;exact ⟨t, h.nox, q⟩
theorem Fun.binds {x qual : Str} {st : Stmt} {f : Addr} {fd : FuncData} {ps : List Str} (F : Fun K x qual st f fd)
    (h : ∀ (kV doc pm : Value) (an : Option Addr) (cdv ct : Value) (us : List Value), us.length = ps.length → bindArgs (PySem.W.fnOf x qual (z0X st) (yt st) (zl st) .none kV doc pm an cdv ct) ⟨us, []⟩ = pure (ps.zip us)) : Binds K fd ps [] := by
  obtain ⟨oc, od, kV, doc, pm, an, cdv, ct, osl, rfl, lk, hcd⟩ := F.ex;exact .all (h kV doc pm an cdv ct)
theorem zM {x qual : Str} {st : Stmt} {f : Addr} {oc : Value} {od an : Option Addr} {osl : Array (Option Value)} {kV doc pm cdv ct : Value} (l : K.lookup f = some ⟨oc, od, .func (PySem.W.fnOf x qual (z0X st) (yt st) (zl st) .none kV doc pm an cdv ct), osl⟩)
    (c : PySem.W.codeIn K cdv qual = true) (k : PySem.W.keepIn K (.ref f) = true) : Fun K x qual st f (PySem.W.fnOf x qual (z0X st) (yt st) (zl st) .none kV doc pm an cdv ct) := ⟨⟨oc, od, kV, doc, pm, an, cdv, ct, osl, rfl, l, c⟩, k⟩
end
theorem z2X {A : Around} {k : Nat} (hr : Room k A) : A.units + 1 < cLine := Nat.lt_of_le_of_lt (Nat.add_le_add_left (by decide : 1 ≤ 64) _) hr.units
section
variable {X : Cx}
theorem pv (i : Nat) {x : Str} {pos : Pos} (hN : X.N[i]? = some x := by rfl) (hv : Vis X.env.scope x := by first | exact Or.inl rfl | exact Or.inr (Or.inl rfl) | exact Or.inr (Or.inr rfl)) (hd : (x == ("__debug__" : Str)) = false := by decide)
    (hcd : (x == ("__classdict__" : Str)) = false := by decide) : PE X (.Name x pos) (zaJ i) := zab hN hv hd hcd
end
theorem z5D {A B : Prop} (h : B) : if false = true then A else B := by
  rw [if_neg Bool.false_ne_true];exact h
theorem z5V {A B : Prop} (h : A) : if true = true then A else B := by
  rw [if_pos rfl];exact h
theorem yM {c A B : Prop} [Decidable c] (h1 : c → A) (h2 : ¬ c → B) : if c then A else B := by
  by_cases h : c
  · rw [if_pos h];exact h1 h
  · rw [if_neg h];exact h2 h
noncomputable def zF (H H' : Hp) : Prop := ∀ b o, H b = some o → H' b = some o
theorem zF.refl (H : Hp) : zF H H := fun _ _ h => h
theorem zF.trans {H H1 H2 : Hp} (a : zF H H1) (b : zF H1 H2) : zF H H2 := fun c o h => b c o (a c o h)
theorem zF.free {H H' : Hp} (e : zF H H') {l : Addr} (h : H' l = Option.none) : H l = Option.none := by
  cases q : H l with
  | none => rfl
  | some o =>
    rw [e l o q] at h;cases h
theorem zF.seq {K : PySem.W.Frag} {H H' : Hp} {a : Addr} {xs : List V} (e : zF H H') (h : SqL K H a xs) : SqL K H' a xs := by
  rcases h with (h | ⟨o, h⟩) | h
  · exact .inl (.inl (e _ _ h))
  · exact .inl (.inr ⟨o, e _ _ h⟩)
  · exact .inr h
section
variable {κ : Type} [DecidableEq κ]
theorem z7Y {kvs : List (κ × V)} {k : κ} (h : jL kvs k = none) : ¬ k ∈ kvs.map (·.1) := by
  intro m;obtain ⟨p, hp, e⟩ := List.mem_map.mp m;have q : (kvs.any fun kv => decide (kv.1 = k)) = true := List.any_eq_true.mpr ⟨p, hp, decide_eq_true e⟩;rw [kC, h] at q;exact absurd q (by simp)
theorem z93 {kvs : List (κ × V)} {k : κ} {v : V} (h : jL kvs k = some v) : k ∈ kvs.map (·.1) := by
  have q : (kvs.any fun kv => decide (kv.1 = k)) = true := by
    rw [kC, h]
    all_goals rfl
  obtain ⟨p, hp, e⟩ := List.any_eq_true.mp q;exact List.mem_map.mpr ⟨p, hp, of_decide_eq_true e⟩
theorem z4A : ∀ {l : List κ} {k : κ}, l.Nodup → ¬ k ∈ l → (l ++ [k]).Nodup
  | [], k, _, _ => by simp
  | a :: r, k, h, hk => by
    obtain ⟨h1, h2⟩ := List.nodup_cons.mp h
    show (a :: (r ++ [k])).Nodup
    refine List.nodup_cons.mpr ⟨fun m => ?_, z4A h2 fun m => hk (List.mem_cons.mpr (Or.inr m))⟩;rcases List.mem_append.mp m with q | q
    · exact h1 q
    · exact hk (List.mem_cons.mpr (Or.inl (List.mem_singleton.mp q).symm))
end
end L2

namespace L2
open PySem PySem.Spec PyProof.Rows
theorem zG {H : Hp} {p : Addr} (h : H p = none) (o : HO) : zF H (upd H p o) := fun b u q => by rw [zt (zr q h)]; exact q
theorem zF.put {H H' : Hp} {l : Addr} {o : HO} (e : zF H H') (h : H l = none) : zF H (upd H' l o) := fun b u q => by
  rw [zt (zr q h)];exact e b u q
noncomputable def Kp (l : Addr) (H H' : Hp) : Prop := ∀ b o, b ≠ l → H b = some o → H' b = some o
theorem Kp.refl {l : Addr} {H : Hp} : Kp l H H := fun _ _ _ h => h
theorem Kp.trans {l : Addr} {H H1 H2 : Hp} (a : Kp l H H1) (b : Kp l H1 H2) : Kp l H H2 := fun c o n h => b c o n (a c o n h)
theorem zF.kp {l : Addr} {H H' : Hp} (e : zF H H') : Kp l H H' := fun b o _ h => e b o h
theorem z1b {l : Addr} {H : Hp} {o : HO} : Kp l H (upd H l o) := fun b u n h => by rw [zt n]; exact h
theorem zq {n : Nat} (h : n ≤ 1000000) : n ≤ sizeLine := by
  have : sizeLine = 16777216 := sizeLine_eq;omega
theorem zH {n : Nat} (h : n ≤ 1000000) : n < sizeLine := by
  have : sizeLine = 16777216 := sizeLine_eq;omega
section
variable {X : Cx}
theorem ja : kf X (.builtin "isinstance") (fun xs H Q => ∃ x n t b, xs = [x, .ty n] ∧ TyOf X.K H x t ∧ PySem.W.kitOne X.K t (.type n) = some b ∧ Q (.bl b) H) := by
  intro pins s σ H xs us Q I r h;obtain ⟨x, n, t, b, rfl, ty, e, q⟩ := h;obtain ⟨u, w', rfl, rx, ry⟩ := vals2 r;cases (show w' = Value.type n from ry);exact z6S I rx ty e fun tk => ⟨.bl b, H, I.tok _, rfl, q⟩
end
theorem ye {K : PySem.W.Frag} {n : String} : PySem.W.kitOne K (.type n) (.type n) = some true := by
  unfold PySem.W.kitOne;rw [if_pos (beq_self_eq_true _)]
theorem z0C {K : PySem.W.Frag} : PySem.W.kitOne K (.type "int") (.type "str") = some false := by kernel_rfl
theorem z3k {K : PySem.W.Frag} : PySem.W.kitOne K (.type "str") (.type "tuple") = some false := by kernel_rfl
theorem z3m {K : PySem.W.Frag} : PySem.W.kitOne K (.type "int") (.type "tuple") = some false := by kernel_rfl
theorem z4o {K : PySem.W.Frag} : PySem.W.kitOne K (.type "int") (.type "bool") = some false := by kernel_rfl
section
variable {X : Cx}
noncomputable def z8p (K : PySem.W.Frag) : V → List V → Hp → VK → Prop := fun x vs H Q => ∃ l xs y j, x = .ref l ∧ vs = [y] ∧ SqL K H l xs ∧ kg y = true ∧ xs.all kg = true ∧
  (∃ z, xs[j]? = some z ∧ eqV z y = true) ∧ (∀ m z, m < j → xs[m]? = some z → eqV z y = false) ∧ Q (.int ((j : Nat) : Int)) H
theorem jY : MtM X "list.index" (z8p X.K) := by
  intro pins s σ H x vs v us Q I rx rv h;obtain ⟨l, xs, y, j, rfl, rfl, hq, fy, fs, ⟨z, hz, ez⟩, hno, q⟩ := h;cases rx;obtain ⟨u, rfl, ru⟩ := rv.one;obtain ⟨its, r, pl, hsz⟩ := I.list hq;obtain ⟨⟨cls, dd, data, sl⟩, ho, hc, n, hd⟩ := pl.isList;simp only at hc hd;subst hc hd;have hl := r.length;have hn := z1f;have hjx : j < xs.length := (List.getElem?_eq_some_iff.mp hz).1;have hji : j < its.length := by omega
  refine call_meets PySem.F.slot_list_index ⟨_, ho, rfl⟩ PySem.F.entry_list_index (PySem.F.args_list_index_2 _ _)
    (SeqAt.list_indexAt l its.toArray n dd sl u (eqU y) j (by rw [List.size_toArray]; exact hji) (by omega) ?_ ?_) ⟨ho, fun w hw => z0l ru fy r fs w (by simpa using hw), ⟨.int ((j : Nat) : Int), H, I.tok _, ⟨_, rfl⟩, q⟩⟩
  · obtain ⟨w, ew, rw'⟩ := r.get hz;have hh : its[j] = w := (List.getElem?_eq_some_iff.mp ew).2
    show eqU y its[j] = true
    rw [hh, z4u rw' (List.all_eq_true.mp fs z (List.mem_of_getElem? hz))];exact ez
  · intro m hm hlt;have hmi : m < its.length := by rw [List.size_toArray] at hm; exact hm
    have hmx : m < xs.length := by omega
    have hg : xs[m]? = some xs[m] := List.getElem?_eq_getElem hmx;obtain ⟨w, ew, rw'⟩ := r.get hg;have hh : its[m] = w := (List.getElem?_eq_some_iff.mp ew).2
    show eqU y its[m] = false
    rw [hh, z4u rw' (List.all_eq_true.mp fs _ (List.mem_of_getElem? hg))];exact hno m _ hlt hg
noncomputable def za3 (K : PySem.W.Frag) : R2 := fun x y H Q => ∃ a b xs, x = .ref a ∧ y = .ref b ∧ SqL K H a xs ∧ SqL K H b [] ∧ Q (.bl xs.isEmpty) H
theorem z4Y (hu1 : X.A.units + 1 < cLine) : OpR X (compareOp .Eq) (za3 X.K) := by
  intro pins s σ H x y v u Q I rx ry h;have hu : X.A.units < cLine := by omega
  obtain ⟨a, b, xs, rfl, rfl, ha, hb, q⟩ := h;cases rx;cases ry;obtain ⟨its, r, pl, hz⟩ := I.list ha;obtain ⟨its2, r2, pl2, _⟩ := I.list hb;have e2 : its2 = [] := r2.zero;subst e2;cases r with
  | nil => exact SeqAt.eq_listAt (e := fun _ => true) pl.isList pl2.isList rfl hu (fun j h1 _ => absurd h1 (by simp)) ⟨.bl true, H, I, by simp [RelV], q⟩
  | cons r1 r2 => exact SeqAt.eq_list_lengthsAt pl.isList pl2.isList (by simp) hu ⟨.bl false, H, I, rfl, q⟩
end
theorem ifT {c : Bool} {A B : Prop} (h : c = true) (a : A) : if c = true then A else B := by rw [if_pos h]; exact a
theorem ifF {c : Bool} {A B : Prop} (h : c = false) (b : B) : if c = true then A else B := by rw [if_neg (by rw [h]; exact Bool.false_ne_true)]; exact b
theorem qbl {Q : VK} {H : Hp} {a b : Bool} (e : a = b) (q : Q (.bl b) H) : Q (.bl a) H := by rw [e]; exact q
theorem z1C {i j : Int} : decide (V.int i = V.int j) = decide (i = j) := by
  rw [Bool.eq_iff_iff];simp
theorem yk {i j : Str} : decide (V.str i = V.str j) = decide (i = j) := by
  rw [Bool.eq_iff_iff];simp
section
variable {X : Cx} {a b : Expr} {ta tb : TE} {pos : Pos} {tA tB' : TT}
noncomputable def zaH (ta tb : TE) : TE := fun σ H Q => ta σ H fun x H1 => ∃ c, x = .bl c ∧ ∃ d, (tb σ H1 fun y H2 => y = .bl d ∧ H2 = H1) ∧ Q (.bl (c && d)) H1
theorem z8X (ha : PE X a ta) (hb : PE X b tb) : PE X (.BoolOp .And [a, b] pos) (zaH ta tb) := by
  intro pins s σ H Q I h;refine BoolOp_and (thn (ha pins s σ H _ I h) fun v s1 ⟨x, H1, I1, r1, q1⟩ => ?_);obtain ⟨c, rfl, d, qb, q1⟩ := q1;cases r1;refine wpAny_truthy_bool ?_;cases c with
  | true =>
    refine BoolOp_one (thn (hb pins s1 σ H1 _ I1 qb) fun v2 s2 ⟨y, H2, I2, r2, e, e2⟩ => ?_);subst e e2;exact ⟨.bl d, H2, I2, r2, by rw [Bool.true_and] at q1; exact q1⟩
  | false => exact ⟨.bl false, H1, I1, rfl, by rw [Bool.false_and] at q1; exact q1⟩
noncomputable def zaj (tA tB : TT) : TT := fun σ H Q => tA σ H fun c H1 => ∃ d, (tB σ H1 fun d' H2 => d' = d ∧ H2 = H1) ∧ Q (c && d) H1
noncomputable def zbb (tA tB : TT) : TT := fun σ H Q => tA σ H fun c H1 => ∃ d, (tB σ H1 fun d' H2 => d' = d ∧ H2 = H1) ∧ Q (c || d) H1
theorem z1u (ha : PT X a tA) (hb : PT X b tB') : PT X (.BoolOp .And [a, b] pos) (zaj tA tB') := by
  intro pins s σ H Q I h;refine isTrue_and (thn (ha pins s σ H _ I h) fun c s1 ⟨H1, I1, d, qb, q1⟩ => ?_);cases c with
  | true =>
    refine isTrue_and (thn (hb pins s1 σ H1 _ I1 qb) fun c2 s2 ⟨H2, I2, e, e2⟩ => ?_);subst e e2;rw [Bool.true_and] at q1;cases c2 with
    | true => exact isTrue_and_nil ⟨H2, I2, q1⟩
    | false => exact ⟨H2, I2, q1⟩
  | false => exact ⟨H1, I1, by rw [Bool.false_and] at q1; exact q1⟩
theorem z0K (ha : PT X a tA) (hb : PT X b tB') : PT X (.BoolOp .Or [a, b] pos) (zbb tA tB') := by
  intro pins s σ H Q I h;refine isTrue_or (thn (ha pins s σ H _ I h) fun c s1 ⟨H1, I1, d, qb, q1⟩ => ?_);cases c with
  | false =>
    refine isTrue_or (thn (hb pins s1 σ H1 _ I1 qb) fun c2 s2 ⟨H2, I2, e, e2⟩ => ?_);subst e e2;rw [Bool.false_or] at q1;cases c2 with
    | false => exact isTrue_or_nil ⟨H2, I2, q1⟩
    | true => exact ⟨H2, I2, q1⟩
  | true => exact ⟨H1, I1, by rw [Bool.true_or] at q1; exact q1⟩
noncomputable def zbi (c : TT) (t u : TS) : TS := fun D σ H => ∃ J : St → Hp → Prop, (c σ H fun b H1 => if b = true then t { D with nx := J } σ H1 else u { D with nx := J } σ H1) ∧ ∀ σ' H', J σ' H' → D.nx σ' H'
theorem kK {c : Expr} {a b : List Stmt} {tc : TT} {t u : TS} (hc : PT X c tc) (ha : PSs X a t) (hb : PSs X b u) : PS X (.If c a b pos) (zbi tc t u) := by
  intro pins s σ H D I h;obtain ⟨J, h, hJ⟩ := h;have fin : ∀ (f : Flow) (s' : Shared), SP X pins { D with nx := J } f s' → SP X pins D f s' := fun f s' q => by
    cases f with
    | next => obtain ⟨σ', H', I', q⟩ := q; exact ⟨σ', H', I', hJ _ _ q⟩
    | ret v => exact q
    | brk => exact q
    | cont => exact q
  refine wpAny_If (thn (hc pins s σ H _ I h) fun d s1 ⟨H1, I1, q1⟩ => ?_);cases d with
  | true => exact thn (ha pins s1 σ H1 _ I1 q1) fin
  | false => exact thn (hb pins s1 σ H1 _ I1 q1) fin
end
theorem z1p {c : TT} {tb : TS} {D : Ends} {σ : St} {H : Hp} (W : Nat → St → Hp → Prop) (m : Nat) (h0 : W m σ H)
    (hs : ∀ m σ H, W m σ H → c σ H fun b H1 => if b = true then ∃ N : St → Hp → Prop, (∀ σ' H', N σ' H' → ∃ m', m' < m ∧ W m' σ' H') ∧ tb { D with nx := N, ct := N, bk := D.nx } σ H1 else D.nx σ H1) : z85 c tb D σ H :=
  ⟨W, ⟨m, h0⟩, hs⟩
structure Kn (P : Program) (w : World) (K : PySem.W.Frag) (mg : Str → Option Value) (base : Heap) (k : Nat) (x : Str) (ps : List Str) (sp : Sp) : Prop where
  ex : ∃ (f : Addr) (fd : FuncData), FnOk P w K mg base CX0 k f fd ps sp ∧ mg x = some (.ref f) ∧ PySem.W.keepIn K (.ref f) = true ∧ Binds K fd ps []
theorem zy {X : Cx} {k : Nat} {x : Str} {ps : List Str} {sp : Sp} {e : Expr} {es : List Expr} {t : TA} {p pos : Pos} (C : Kn X.prog X.w X.K X.mg X.base k x ps sp) (hr : Room k X.A) (hg : Gl X x) (ha : PA X (e :: es) t)
    (hdb : (x == ("__debug__" : Str)) = false := by decide) (he : starEach (e :: es) X.env = (false, eval e X.env) :: starEach es X.env := by rfl) (hpl : (backTo pos (starEach es X.env)).any (·.1) = false := by rfl) :
    PE X (.Call (.Name x p) (e :: es) [] pos) (z9s sp [] E0 t) := by
  obtain ⟨f, fd, F, hm, hk, hb⟩ := C.ex;exact z8N F hr hg hm hk hb .nil z6F ha hdb he hpl
theorem z2E {α : Type} (gs : List α) (x : α) : (gs ++ [x])[(gs ++ [x]).length - 1]? = some x := by simp
theorem z4i {α : Type} {l : List α} (h : l ≠ []) : ∃ gs x, l = gs ++ [x] := ⟨l.dropLast, l.getLast h, (List.dropLast_concat_getLast h).symm⟩
theorem zQ {α : Type} {x : α} {r : List α} : atI (x :: r) 0 = some x := zW (j := 0) rfl
theorem jd {α : Type} {x y : α} {r : List α} : atI (x :: y :: r) 1 = some y := zW (j := 1) rfl
theorem jx {α : Type} {x y z : α} {r : List α} : atI (x :: y :: z :: r) 2 = some z := zW (j := 2) rfl
theorem z6y {α : Type} {xs : List α} {i : Int} {v : α} (h0 : 0 ≤ i) (h : xs[i.toNat]? = some v) : atI xs i = some v := by
  have e : i = ((i.toNat : Nat) : Int) := by omega
  rw [e];exact zW h
theorem zU (ss : List Str) : (ss.map V.str).all kg = true := by
  rw [List.all_eq_true];intro x hx;obtain ⟨s, _, rfl⟩ := List.mem_map.mp hx
  rfl
theorem j9 {ss : List Str} {s : Str} (h : s ∈ ss) : (∃ z, (ss.map V.str)[ss.idxOf s]? = some z ∧ eqV z (.str s) = true) ∧ ∀ m z, m < ss.idxOf s → (ss.map V.str)[m]? = some z → eqV z (.str s) = false := by
  have hj : ss.idxOf s < ss.length := List.idxOf_lt_length_iff.mpr h;refine ⟨⟨.str s, ?_, ?_⟩, fun m z hm hz => ?_⟩
  · rw [List.getElem?_map, List.getElem?_eq_getElem hj, List.getElem_idxOf hj]
    rfl
  · show (s == s) = true
    exact beq_self_eq_true s
  · have hml : m < ss.length := by omega
    rw [List.getElem?_map, List.getElem?_eq_getElem hml] at hz;cases hz
    show (ss[m] == s) = false
    have h2 : m < ss.findIdx (· == s) := hm;exact List.not_of_lt_findIdx h2
end L2

namespace L2
open PySem PySem.Spec PyProof.Rows
theorem z4h {prog : Program} {w : World} {A : Around} {R : Result → Shared → Prop} {s : Shared} {elt target iter : Expr} {ifs : List Expr} {scope : Scope} {pos : Pos} {it acc : Value} {env : Env} (I : Nat → Shared → Prop)
    (turn : ∀ n s, I n s → wpAny (model prog w) A (pyNext it) (fun r s₁ => match r with
      | none => R (.ok .next) s₁
      | some v => wpAny (model prog w) A (letOwnedTupleGo target it v) (fun _ s₁' => wpAny (model prog w) A (assign target env v) (fun _ s₂ =>
          wpAny (model prog w) A (forIn ifs true fun c r => if r = true then do let ok ← isTrue c env (eval c env); pure (ForInStep.yield ok) else pure (ForInStep.yield r)) (fun ok s₃ =>
            if ok = true then wpAny (model prog w) A (eval elt env) (fun x s₄ =>
              wpAny (model prog w) A (call (.builtin "list.append") [acc, x]) (fun _ s₅ => ∃ m, m < n ∧ I m s₅) (notedBy (model prog w) A env fun e s' => R (.error e) s') s₄) (notedBy (model prog w) A env fun e s' => R (.error e) s') s₃
            else ∃ m, m < n ∧ I m s₃) (notedBy (model prog w) A env fun e s' => R (.error e) s') s₂) (notedBy (model prog w) A env fun e s' => R (.error e) s') s₁') (notedBy (model prog w) A env fun e s' => R (.error e) s') s₁) (notedBy (model prog w) A env fun e s' => R (.error e) s') s)
    (n : Nat) (h : I n s) :
    codeAny (model prog w) A (.compLoop (.ListComp elt [⟨target, iter, ifs, 0⟩] scope pos) 0 it acc env) R s := by
  refine codeAny_loop rfl I (fun n s hI => ?_) n h
  show wpAny _ A ((compTurn (.ListComp elt [⟨target, iter, ifs, 0⟩] scope pos) 0 it acc env).onRaise (fun x => do noteFrame x env; theTreesLotGoes x)) _ _ s
  refine wpAny_noted ?_;rw [compTurn_list];refine wpAny_bind (wpAny_standAt (wpAny_bind (wpAny_mono (turn n s hI) (fun r s₁ h₁ => ?_) fun _ _ h' => h')));cases r with
  | none => exact wpAny_pure h₁
  | some v =>
    refine wpAny_bind (wpAny_mono h₁ (fun _ s₁' h₁' => ?_) fun _ _ h' => h');refine wpAny_bind (wpAny_mono h₁' (fun _ s₂ h₂ => wpAny_bind (wpAny_mono h₂ (fun ok s₃ h₃ => ?_) fun _ _ h' => h')) fun _ _ h' => h');cases ok with
    | false => exact wpAny_pure ⟨rfl, h₃⟩
    | true =>
      exact wpAny_bind (wpAny_bind (wpAny_mono h₃ (fun x s₄ h₄ => wpAny_bind (wpAny_mono h₄ (fun _ s₅ h₅ => wpAny_pure (wpAny_pure ⟨rfl, h₅⟩)) fun _ _ h' => h')) fun _ _ h' => h'))
noncomputable def yB (env : Env) : List (Str × NameKind) → List (Str × Addr) → List (Str × Addr)
  | [], acc => acc
  | (n, k) :: r, acc => yB env r (if k == .free then (n, (env.cells.lookup n).getD 0) :: acc else acc)
theorem z6C {env : Env} (f : Str × NameKind → List (Str × Addr) → Sem (ForInStep (List (Str × Addr))))
    (hf : ∀ name kind cells, f (name, kind) cells = if kind == .free then (do let a ← cellOf env name; pure (.yield ((name, a) :: cells))) else pure (.yield cells)) :
    ∀ (names : List (Str × NameKind)) (acc : List (Str × Addr)), (∀ y ∈ names, y.2 = .free → ∃ c, env.cells.lookup y.1 = some c) → forIn names acc f = (pure (yB env names acc) : Sem (List (Str × Addr)))
  | [], acc, _ => by rw [List.forIn_nil]; rfl
  | (n, k) :: r, acc, h => by
    rw [List.forIn_cons, hf];have ih := fun acc => z6C f hf r acc fun y hy => h y (List.mem_cons_of_mem _ hy)
    unfold yB;cases hk : k == NameKind.free with
    | true =>
      obtain ⟨c, hc⟩ := h (n, k) List.mem_cons_self (beq_iff_eq.mp hk);have e : cellOf env n = (pure c : Sem Addr) := by
        unfold cellOf;have hc' : env.cells.lookup n = some c := hc;rw [hc']
      have hc' : env.cells.lookup n = some c := hc;simp only [if_true, e, pure_bind, hc', Option.getD_some];exact ih _
    | false =>
      simp only [Bool.false_eq_true, if_false, pure_bind];exact ih _
theorem ky {scope : Scope} {env : Env} (h : ∀ y ∈ scope.names, y.2 = .free → ∃ c, env.cells.lookup y.1 = some c) : closureFor scope env = pure (yB env scope.names []) := by
  simp only [closureFor];rw [z6C (env := env) _ (fun name kind cells => by cases hk : kind == NameKind.free <;> simp [hk]) scope.names [] h]
  rfl
theorem z0S {env : Env} : ∀ (names : List (Str × NameKind)) (acc : List (Str × Addr)), (∀ y ∈ names, y.2 = .free → ∃ c, env.cells.lookup y.1 = some c) → (∀ y c, acc.lookup y = some c → env.cells.lookup y = some c) →
    ∀ y c, (yB env names acc).lookup y = some c → env.cells.lookup y = some c
  | [], _, _, ha => ha
  | (n, k) :: r, acc, h, ha => by
    unfold yB;refine z0S r _ (fun y hy => h y (List.mem_cons_of_mem _ hy)) fun y c e => ?_
    cases hk : k == NameKind.free with
    | true =>
      rw [hk, if_pos rfl, List.lookup_cons] at e;obtain ⟨c', hc⟩ := h (n, k) List.mem_cons_self (beq_iff_eq.mp hk);have hc' : env.cells.lookup n = some c' := hc;cases hy : y == n with
      | true =>
        rw [hy] at e;rw [hc'] at e;cases e;rw [beq_iff_eq.mp hy];exact hc'
      | false =>
        rw [hy] at e;exact ha y c e
    | false =>
      rw [hk, if_neg Bool.false_ne_true] at e;exact ha y c e
theorem z1s {env : Env} : ∀ (names : List (Str × NameKind)) (acc : List (Str × Addr)) (y : Str), ((y, NameKind.free) ∈ names ∨ ∃ c, acc.lookup y = some c) → ∃ c, (yB env names acc).lookup y = some c
  | [], _, y, h => by
    rcases h with h | h
    · cases h
    · exact h
  | (n, k) :: r, acc, y, h => by
    unfold yB;refine z1s r _ y ?_;rcases h with h | ⟨c, h⟩
    · rcases List.mem_cons.mp h with e | h
      · cases e;refine .inr ?_;simp [List.lookup_cons]
      · exact .inl h
    · refine .inr ?_;by_cases hk : (k == NameKind.free) = true
      · rw [if_pos hk, List.lookup_cons];cases y == n with
        | true => exact ⟨_, rfl⟩
        | false => exact ⟨c, h⟩
      · rw [if_neg hk];exact ⟨c, h⟩
theorem z2D : ∀ (names : List (Str × NameKind)) (h : Heap) (acc : List (Str × Addr)) (y : Str) (c : Addr), (cellsFrom h.objs.size names acc).lookup y = some c →
    ((pushCells h names).IsCell c none ∧ h.objs.size ≤ c ∧ (y, NameKind.cell) ∈ names) ∨ acc.lookup y = some c
  | [], _, _, _, _, e => .inr e
  | (n, k) :: r, h, acc, y, c, e => by
    unfold cellsFrom at e;unfold pushCells;by_cases hk : (k == NameKind.cell) = true
    · rw [if_pos hk] at e ⊢;have e' : (cellsFrom (h.push { cls := .type "cell", data := .cell none }).objs.size r ((n, h.objs.size) :: acc)).lookup y = some c := by rw [Heap.size_push]; exact e
      rcases z2D r (h.push { cls := .type "cell", data := .cell none }) ((n, h.objs.size) :: acc) y c e' with ⟨a1, a2, a3⟩ | a
      · rw [Heap.size_push] at a2;exact .inl ⟨a1, by omega, List.mem_cons_of_mem _ a3⟩
      · rw [List.lookup_cons] at a;cases hy : y == n with
        | true =>
          rw [hy] at a;cases a;refine .inl ⟨Heap.IsCell.keeps ⟨_, Heap.get?_push_size _ rfl, rfl⟩ fun b o q => pushCells_keeps r _ b o q, Nat.le_refl _, ?_⟩;rw [beq_iff_eq.mp hy, beq_iff_eq.mp hk];exact List.mem_cons_self
        | false =>
          rw [hy] at a;exact .inr a
    · rw [if_neg hk] at e ⊢;rcases z2D r h acc y c e with ⟨a1, a2, a3⟩ | a
      · exact .inl ⟨a1, a2, List.mem_cons_of_mem _ a3⟩
      · exact .inr a
theorem z4v : ∀ (names : List (Str × NameKind)) (n : Nat) (acc : List (Str × Addr)) (y : Str), (y, NameKind.cell) ∉ names → (cellsFrom n names acc).lookup y = acc.lookup y
  | [], _, _, _, _ => rfl
  | (m, k) :: r, n, acc, y, h => by
    unfold cellsFrom;by_cases hk : (k == NameKind.cell) = true
    · rw [if_pos hk, z4v r (n + 1) _ y fun z => h (List.mem_cons_of_mem _ z), List.lookup_cons];have : (y == m) = false := beq_eq_false_iff_ne.mpr fun z => h (by rw [z, beq_iff_eq.mp hk]; exact List.mem_cons_self)
      rw [this]
    · rw [if_neg hk];exact z4v r n acc y fun z => h (List.mem_cons_of_mem _ z)
theorem z5X : ∀ (names : List (Str × NameKind)) (n : Nat) (acc : List (Str × Addr)) (y : Str), ((y, NameKind.cell) ∈ names ∨ ∃ c, acc.lookup y = some c) → ∃ c, (cellsFrom n names acc).lookup y = some c
  | [], _, _, _, h => by
    rcases h with h | h
    · cases h
    · exact h
  | (m, k) :: r, n, acc, y, h => by
    unfold cellsFrom;by_cases hk : (k == NameKind.cell) = true
    · rw [if_pos hk];refine z5X r (n + 1) _ y ?_;rcases h with h | ⟨c, h⟩
      · rcases List.mem_cons.mp h with e | h
        · cases e;exact .inr ⟨n, by simp [List.lookup_cons]⟩
        · exact .inl h
      · refine .inr ?_;rw [List.lookup_cons];cases y == m with
        | true => exact ⟨_, rfl⟩
        | false => exact ⟨c, h⟩
    · rw [if_neg hk];refine z5X r n acc y ?_;rcases h with h | h
      · rcases List.mem_cons.mp h with e | h
        · cases e;exact absurd rfl hk
        · exact .inl h
      · exact .inr h
theorem z63 : ∀ (names : List (Str × NameKind)) (n : Nat) (acc : List (Str × Addr)), (∀ y c, acc.lookup y = some c → c < n) → (∀ y z c, acc.lookup y = some c → acc.lookup z = some c → y = z) →
    ∀ y z c, (cellsFrom n names acc).lookup y = some c → (cellsFrom n names acc).lookup z = some c → y = z
  | [], _, _, _, hi => hi
  | (m, k) :: r, n, acc, hb, hi => by
    unfold cellsFrom;by_cases hk : (k == NameKind.cell) = true
    · rw [if_pos hk];refine z63 r (n + 1) _ (fun y c e => ?_) fun y z c e1 e2 => ?_
      · rw [List.lookup_cons] at e;cases hy : y == m with
        | true => rw [hy] at e; cases e; exact Nat.lt_succ_self n
        | false => rw [hy] at e; exact Nat.lt_succ_of_lt (hb y c e)
      · rw [List.lookup_cons] at e1 e2;cases hy : y == m with
        | true =>
          rw [hy] at e1;cases e1;cases hz : z == m with
          | true => rw [beq_iff_eq.mp hy, beq_iff_eq.mp hz]
          | false => rw [hz] at e2; exact absurd (hb z n e2) (Nat.lt_irrefl _)
        | false =>
          rw [hy] at e1;cases hz : z == m with
          | true => rw [hz] at e2; cases e2; exact absurd (hb y n e1) (Nat.lt_irrefl _)
          | false => rw [hz] at e2; exact hi y z c e1 e2
    · rw [if_neg hk];exact z63 r n acc hb hi
theorem z2g {M : Model} {A : Around} {E : Value → Shared → Prop} {s : Shared} {scope : Scope} {globals : Addr} {cl : List (Str × Addr)} {qual : Str} {env : Env} {Q : Env → Shared → Prop}
    (hQ : Q { scope := scope, locals := s.heap.objs.size, globals := globals, cells := cellsFrom (s.heap.push { cls := .type "dict", data := .dict #[] }).objs.size scope.names cl, qual := qual, func := none, code := env.code, frame := env.frame, builtins := env.builtins }
      { s with heap := pushCells (s.heap.push { cls := .type "dict", data := .dict #[] }) scope.names }) :
    wpAny M A (newFunctionEnv scope globals cl [] qual none .none (some env)) Q E s := by
  simp only [newFunctionEnv, Option.isSome_some, if_true];refine wpAny_bind (wpAny_alloc ?_);refine wpAny_bind (wpAny_layCells _ (fun name kind cells => by cases hkc : kind == NameKind.cell <;> simp [hkc]) _ _ _ _ ?_);rw [List.forIn_nil];exact wpAny_bind (wpAny_pure (wpAny_pure hQ))
noncomputable abbrev jN (X : Cx) (scope : Scope) (NY : List Str) (C : Addr) (cells : List (Str × Addr)) (s₀ : Shared) (H₀ : Hp) (ex : List Addr) (pins : List (Addr × Obj)) : Cx :=
  { prog := X.prog, w := X.w, K := X.K, mg := X.mg, base := X.base, A := X.A, N := NY, s₀ := s₀, H₀ := H₀, env := compEnvC scope cells C X.env, outer := X.stack, stack := X.stack, ex := ex, fn := fun y => decide ((y, NameKind.cell) ∈ scope.names), calm := X.calm, pn := X.pn ++ pins, xe := fun _ _ => False }
structure CompSc (X : Cx) (scope : Scope) (x : Str) (fr : List Str) (ix : List Nat) : Prop where
  kind : scope.kind = .function
  names : ∀ y ∈ scope.names, y.2 = .local → scope.names.lookup y.1 = some .local
  uniq : (scope.names.map (·.1)).Nodup
  xloc : scope.names.lookup x = some .local ∨ scope.names.lookup x = some .cell
  clo : ∀ y ∈ scope.names, y.2 = .free → X.env.kindOf y.1 = some .cell ∨ X.env.kindOf y.1 = some .free
  free : ∀ (k : Nat) (y : Str), fr[k]? = some y → ∃ j, ix[k]? = some j ∧ X.N[j]? = some y ∧ scope.names.lookup y = some .free
  nd : (x :: fr).Nodup
  len : fr.length = ix.length
noncomputable def sub (σ : St) (ix : List Nat) (x : Option V) : St := x :: ix.map fun j => (σ[j]?).getD none
noncomputable def z7Z (X : Cx) (ifs : List Expr) (t : TT) : Prop :=
  ∀ (pins : List (Addr × Obj)) (s : Shared) (σ : St) (H : Hp) (Q : Bool → Hp → Prop), Inv X pins σ H s → t σ H Q →
    wpAny (model X.prog X.w) X.A (forIn ifs true fun c r => if r = true then do let ok ← isTrue c X.env (eval c X.env); pure (ForInStep.yield ok) else pure (ForInStep.yield r)) (TP X pins σ Q) X.xe s
noncomputable def z59 : TT := fun _ H Q => Q true H
theorem jr {X : Cx} : z7Z X [] z59 := fun _ _ _ H _ I h => wpAny_tests_nil ⟨H, I, h⟩
theorem z1j {X : Cx} {c : Expr} {t : TT} (h : PT X c t) : z7Z X [c] t := fun pins s σ H Q I q => wpAny_tests_one (h pins s σ H Q I q)
theorem yu {env : Env} : ∀ {names : List (Str × NameKind)} {y : Str} {k : NameKind}, names.lookup y = some k →
    (names.map fun (n, k) => if (k == NameKind.free && env.scope.kind == .function && env.kindOf n == some .cell) then (n, NameKind.cell) else (n, k)).lookup y = some (if (k == NameKind.free && env.scope.kind == .function && env.kindOf y == some .cell) then NameKind.cell else k)
  | [], _, _, h => by simp at h
  | (n, k') :: r, y, k, h => by
    rw [List.lookup_cons] at h;rw [List.map_cons];cases hy : y == n with
    | true =>
      rw [hy] at h;cases h;have e : y = n := beq_iff_eq.mp hy;subst e;by_cases hc : (k' == NameKind.free && env.scope.kind == .function && env.kindOf y == some .cell) = true
      · simp only [hc, if_true, List.lookup_cons, beq_self_eq_true]
      · simp only [hc, if_false, List.lookup_cons, beq_self_eq_true];simp
    | false =>
      rw [hy] at h;have ih := yu (env := env) (names := r) h;by_cases hc : (k' == NameKind.free && env.scope.kind == .function && env.kindOf n == some .cell) = true
      · simp only [hc, if_true, List.lookup_cons, hy];exact ih
      · show List.lookup y ((if (k' == NameKind.free && env.scope.kind == .function && env.kindOf n == some .cell) = true then (n, NameKind.cell) else (n, k')) :: _) = _
        rw [if_neg hc, List.lookup_cons, hy];exact ih
theorem z3I {env : Env} : ∀ {names : List (Str × NameKind)} {y : Str} {k : NameKind},
    (names.map fun (n, k) => if (k == NameKind.free && env.scope.kind == .function && env.kindOf n == some .cell) then (n, NameKind.cell) else (n, k)).lookup y = some k → ∃ k', names.lookup y = some k' ∧ k = (if (k' == NameKind.free && env.scope.kind == .function && env.kindOf y == some .cell) then NameKind.cell else k')
  | names, y, k, h => by
    cases e : names.lookup y with
    | some k' =>
      have := yu (env := env) e;rw [this] at h;exact ⟨k', rfl, (Option.some.inj h).symm⟩
    | none =>
      exfalso
      induction names with
      | nil => simp at h
      | cons p r ih =>
        obtain ⟨n, k'⟩ := p;rw [List.lookup_cons] at e;cases hy : y == n with
        | true => rw [hy] at e; cases e
        | false =>
          rw [hy] at e;refine ih ?_ e;rw [List.map_cons] at h;by_cases hc : (k' == NameKind.free && env.scope.kind == .function && env.kindOf n == some .cell) = true
          · simpa only [hc, if_true, List.lookup_cons, hy] using h
          · simpa [hc, List.lookup_cons, hy] using h
theorem lookup_mem {α : Type} {l : List (Str × α)} {n : Str} {c : α} (h : l.lookup n = some c) : (n, c) ∈ l := PySem.mem_of_lookup h
theorem z5F : ∀ (names : List (Str × NameKind)) (n : Nat) (acc : List (Str × Addr)) (y : Str) (c : Addr), (y, NameKind.cell) ∈ names → (cellsFrom n names acc).lookup y = some c → n ≤ c
  | [], _, _, _, _, h, _ => by cases h
  | (m, k) :: r, n, acc, y, c, h, e => by
    unfold cellsFrom at e;by_cases hr : (y, NameKind.cell) ∈ r
    · by_cases hk : (k == NameKind.cell) = true
      · rw [if_pos hk] at e;exact Nat.le_of_succ_le (z5F r (n + 1) _ y c hr e)
      · rw [if_neg hk] at e;exact z5F r n acc y c hr e
    · rcases List.mem_cons.mp h with q | q
      · cases q;rw [if_pos (beq_self_eq_true _), z4v r (n + 1) _ _ hr, List.lookup_cons, beq_self_eq_true] at e;cases e;exact Nat.le_refl _
      · exact absurd q hr
theorem z3M : ∀ {names : List (Str × NameKind)} {y : Str} {k k' : NameKind}, (names.map (·.1)).Nodup → names.lookup y = some k → (y, k') ∈ names → k = k'
  | [], _, _, _, _, h, _ => by simp at h
  | (n, kk) :: r, y, k, k', hn, h, hm => by
    rw [List.map_cons] at hn;obtain ⟨h1, h2⟩ := List.nodup_cons.mp hn;rw [List.lookup_cons] at h;cases hy : y == n with
    | true =>
      rw [hy] at h;cases h;rcases List.mem_cons.mp hm with e | hm
      · cases e; rfl
      · exact absurd (List.mem_map.mpr ⟨_, hm, rfl⟩) (by rw [beq_iff_eq.mp hy]; exact h1)
    | false =>
      rw [hy] at h;rcases List.mem_cons.mp hm with e | hm
      · cases e;rw [beq_self_eq_true] at hy;cases hy
      · exact z3M h2 h hm
section
variable {X : Cx} {pins : List (Addr × Obj)} {σ : St} {H : Hp} {s : Shared} {scope : Scope} {x : Str} {fr : List Str} {ix : List Nat} {fp : List Addr}
noncomputable abbrev je : Obj := { cls := .type "list", data := .seq ([] : List Value).toArray }
noncomputable abbrev kH : Obj := { cls := .type "dict", data := .dict #[] }
theorem z7b (S : CompSc X scope x fr ix) (I : Inv X pins σ H s) (hfp : ∀ b ∈ fp, z3x X pins H b) (hlt : ∀ b ∈ fp, b < s.heap.objs.size) :
    Inv (jN X scope (x :: fr) (s.heap.push je).objs.size (cellsFrom ((s.heap.push je).push kH).objs.size scope.names (yB X.env scope.names [])) s H fp pins) [] (sub σ ix none) H
      { s with heap := pushCells ((s.heap.push je).push kH) scope.names } := by
  have clo' : ∀ y ∈ scope.names, y.2 = .free → ∃ c, X.env.cells.lookup y.1 = some c := fun y hy hk => I.ok.has y.1 (S.clo y hy hk)
  have clook : ∀ y c, (yB X.env scope.names []).lookup y = some c → X.env.cells.lookup y = some c := z0S scope.names [] clo' fun y c e => by simp at e
  have chas : ∀ y, (y, NameKind.free) ∈ scope.names → ∃ c, (yB X.env scope.names []).lookup y = some c := fun y hy => z1s scope.names [] y (.inl hy)
  have cb : ∀ y c, (yB X.env scope.names []).lookup y = some c → c < s.heap.objs.size := fun y c e => by
    obtain ⟨v, q⟩ := I.cell y c (clook y c e);exact q.lt
  have z1 : (s.heap.push je).objs.size = s.heap.objs.size + 1 := Heap.size_push ..;have z2 : ((s.heap.push je).push kH).objs.size = s.heap.objs.size + 2 := by rw [Heap.size_push, z1]
  have up : ∀ b o, s.heap.get? b = some o → (pushCells ((s.heap.push je).push kH) scope.names).get? b = some o := fun b o e => pushCells_keeps _ _ b o (Heap.get?_push_of_some _ (Heap.get?_push_of_some _ e))
  have cold : ∀ y c, (cellsFrom ((s.heap.push je).push kH).objs.size scope.names (yB X.env scope.names [])).lookup y = some c →
      ((pushCells ((s.heap.push je).push kH) scope.names).IsCell c none ∧ s.heap.objs.size + 2 ≤ c ∧ (y, NameKind.cell) ∈ scope.names) ∨ X.env.cells.lookup y = some c := fun y c e => by
    rcases z2D scope.names ((s.heap.push je).push kH) (yB X.env scope.names []) y c e with ⟨a1, a2, a3⟩ | a
    · rw [z2] at a2;exact .inl ⟨a1, a2, a3⟩
    · exact .inr (clook y c a)
  have ok : (jN X scope (x :: fr) (s.heap.push je).objs.size (cellsFrom ((s.heap.push je).push kH).objs.size scope.names (yB X.env scope.names [])) s H fp pins).Ok := by
    refine ⟨I.ok.mod, S.kind, I.ok.glob, I.ok.blt, ?_, ?_, ?_, ?_, I.ok.hd, I.ok.frames, .inl rfl, ?_, I.bs, Nat.le_trans I.ok.bsz I.sz, ?_, ?_, I.stack, I.stkFree⟩
    · show s.heap.objs.size ≤ (s.heap.push je).objs.size
      rw [z1];omega
    · exact z63 scope.names _ _ (fun y c e => by rw [z2]; exact Nat.lt_of_lt_of_le (cb y c e) (Nat.le_add_right _ 2)) fun y z c e1 e2 => I.ok.inj y z c (clook y c e1) (clook z c e2)
    · intro y hy;refine z5X scope.names _ _ y ?_;have hy' : (relabel scope X.env).names.lookup y = some .cell ∨ (relabel scope X.env).names.lookup y = some .free := hy;rcases hy' with hy' | hy'
      · obtain ⟨k', e, ek⟩ := z3I hy';by_cases hc : (k' == NameKind.free && X.env.scope.kind == .function && X.env.kindOf y == some .cell) = true
        · rw [Bool.and_eq_true, Bool.and_eq_true] at hc;have e2 := beq_iff_eq.mp hc.1.1;subst e2;exact .inr (chas y (lookup_mem e))
        · rw [if_neg hc] at ek;subst ek;exact .inl (lookup_mem e)
      · obtain ⟨k', e, ek⟩ := z3I hy';by_cases hc : (k' == NameKind.free && X.env.scope.kind == .function && X.env.kindOf y == some .cell) = true
        · rw [if_pos hc] at ek;cases ek
        · rw [if_neg hc] at ek;subst ek;exact .inr (chas y (lookup_mem e))
    · intro y c hy e;have hm : (y, NameKind.cell) ∈ scope.names := of_decide_eq_true hy;have := z5F scope.names _ _ y c hm e
      show s.heap.objs.size ≤ c
      rw [z2] at this;omega
    · intro b hb;have hb' := hlt b hb;refine ⟨?_, fun y c e => ?_⟩
      · show b ≠ (s.heap.push je).objs.size
        rw [z1];exact Nat.ne_of_lt (Nat.lt_succ_of_lt hb')
      · rcases cold y c e with ⟨_, a2, _⟩ | a
        · exact Nat.ne_of_gt (Nat.lt_of_lt_of_le hb' (Nat.le_trans (Nat.le_add_right _ 2) a2))
        · exact (hfp b hb).2.2.2.2.1 y c a
    · intro b o e hb;obtain ⟨_, _, _, f3, _⟩ := hfp b hb;rcases f3 with f3 | f3
      · exact I.ok.noex b o e f3
      · exact absurd (Nat.lt_of_lt_of_le (Heap.lt_size e) (Nat.le_trans I.ok.bsz f3)) (Nat.lt_irrefl _)
    · intro b hb z;obtain ⟨_, f1, f2, _⟩ := hfp b hb;rcases List.mem_cons.mp (I.stkSub b z) with e | e
      · exact f1 e
      · exact f2 e
  refine ⟨ok, rfl, I.bare, Un.kept up, ⟨_, (Heap.Ns.new (s.heap.push je) (.type "dict")).keeps (pushCells_keeps _ _), fun i y v e1 e2 e3 => ?_⟩, fun y c e => ?_, ?_, fun y c e => ?_, fun p hp => ?_, I.hok.kept up, ?_⟩
  · cases i with
    | zero => cases e2
    | succ k =>
      have e1' : fr[k]? = some y := e1;have e2' : (ix.map fun j => (σ[j]?).getD none)[k]? = some (some v) := e2;obtain ⟨j, hj, hN, hsc⟩ := S.free k y e1';rw [List.getElem?_map, hj] at e2';have e4 : (σ[j]?).getD none = some v := Option.some.inj e2';have e5 : σ[j]? = some (some v) := by
        cases q : σ[j]? with
        | none => rw [q] at e4; cases e4
        | some o => rw [q] at e4; exact congrArg some e4
      have hk := S.clo (y, NameKind.free) (lookup_mem hsc) rfl;obtain ⟨m, hn, hl⟩ := I.loc;obtain ⟨u, ru, lk⟩ := hl j y v hN e5 (.inr hk);refine ⟨u, ru, .inr ⟨?_, ?_⟩⟩
      · have q := yu (env := X.env) hsc
        show (relabel scope X.env).names.lookup y = _ ∨ (relabel scope X.env).names.lookup y = _
        rw [show (relabel scope X.env).names.lookup y = _ from q];by_cases hc : (NameKind.free == NameKind.free && X.env.scope.kind == .function && X.env.kindOf y == some .cell) = true
        · rw [if_pos hc]; exact .inl rfl
        · rw [if_neg hc]; exact .inr rfl
      · rcases lk with ⟨lk, _⟩ | ⟨_, c, hc, hcell⟩
        · rcases hk with hk | hk
          · rw [show X.env.kindOf y = _ from hk] at lk; cases lk
          · rw [show X.env.kindOf y = _ from hk] at lk; cases lk
        · refine ⟨c, ?_, hcell.keeps up⟩;have hno : (y, NameKind.cell) ∉ scope.names := fun z => by
            have := z3M S.uniq hsc z;cases this
          show (cellsFrom _ scope.names _).lookup y = some c
          rw [z4v scope.names _ _ y hno];obtain ⟨c', hc'⟩ := chas y (lookup_mem hsc);have := clook y c' hc';rw [hc] at this;cases this;exact hc'
  · rcases cold y c e with ⟨a1, _, _⟩ | a
    · exact ⟨none, a1⟩
    · obtain ⟨v, q⟩ := I.cell y c a;exact ⟨v, q.keeps up⟩
  · show H (s.heap.push je).objs.size = none
    exact I.hok.fresh (by rw [z1]; omega)
  · rcases cold y c e with ⟨_, a2, _⟩ | a
    · exact I.hok.fresh (by omega)
    · exact I.freeC y c a
  · have hp' : p ∈ X.pn ++ pins := by simpa using hp
    obtain ⟨e, n, ne, nf, d⟩ := I.pin p hp';have hpl := Heap.lt_size e;refine ⟨up _ _ e, n, ?_, fun z => ?_, d⟩
    · show p.1 ≠ (s.heap.push je).objs.size
      rw [z1];exact Nat.ne_of_lt (Nat.lt_succ_of_lt hpl)
    · rcases List.mem_cons.mp (I.stkSub p.1 z) with q | q
      · exact ne q
      · exact nf q
  · show (sub σ ix none).length = (x :: fr).length
    unfold sub;rw [List.length_cons, List.length_map, List.length_cons, S.len]
theorem z7Q {σ4 : St} {H4 : Hp} {s4 : Shared} {cells : List (Str × Addr)} {NY : List Str} {C D : Addr} {pl : List (Addr × Obj)} {its : List Value} {ys : List V} {k : Nat} {h' : Heap} (I : Inv X pins σ H s) (hfp : ∀ b ∈ fp, z3x X pins H b)
    (I4 : Inv (jN X scope NY C cells s H fp pins) pl σ4 H4 s4) (hD : s.heap.objs.size ≤ D) (hC : s.heap.objs.size ≤ C) (hDC : D ≠ C) (nD : H4 D = none) (oD : s4.heap.get? D = some { cls := .type "list", data := .seq its.toArray k }) (r : zP ys its) (hz : ys.length ≤ sizeLine)
    (sb : Heap.SameBut C s4.heap h') : Inv X pins σ (upd H4 D (.lst ys)) { s4 with heap := h' } := by
  have u : Un (frs X.stack) fp H H4 s.heap s4.heap := I4.base;have ne : ∀ b o, s.heap.get? b = some o → b ≠ C ∧ b ≠ D := fun b o e => by
    have := Heap.lt_size e;exact ⟨Nat.ne_of_lt (Nat.lt_of_lt_of_le this hC), Nat.ne_of_lt (Nat.lt_of_lt_of_le this hD)⟩
  have hHD : H D = none := I.hok.fresh hD;have nC : H4 C = none := I4.free;have sm : ∀ b, b ≠ C → h'.get? b = s4.heap.get? b := fun b hb => sb.2 b hb
  have u' : Un (frs X.stack) fp H (upd H4 D (.lst ys)) s.heap h' := by
    refine ⟨fun b o e n hb hx => ?_, fun b o e n hb hx => ?_, fun b o e n hx => ?_, fun b o e hx => ?_, fun b xs e => ?_, fun b o w e => ?_, fun b ps e => ?_⟩
    · rw [sm b (ne b o e).1];exact u.keep b o e n hb hx
    · rw [sm b (ne b o e).1];exact u.slot b o e n hb hx
    · rw [zt (ne b o e).2];exact u.free b o e n hx
    · rw [sm b (ne b o e).1];exact u.there b o e hx
    · rw [zt (zr e hHD)];exact u.tups b xs e
    · rw [zt (zr e hHD)];exact u.frzs b o w e
    · rw [zt (zr e hHD)];exact u.tbls b ps e
  have hok : HOk X.prog X.w (upd H4 D (.lst ys)) h' := fun b o e => by
    by_cases hb : b = D
    · subst hb;rw [zm] at e;cases e;exact ⟨hz, its, k, r, (sm b hDC).trans oD⟩
    · rw [zt hb] at e;refine (I4.hok b o e).stay (fun c v hc q => ?_) (fun c q => ?_) fun c xs q => ?_
      · have hcC : c ≠ C := by
          rintro rfl;rcases hc with z | z
          · rw [← z, nC] at e; cases e
          · rw [nC] at z; cases z
        exact (sm c hcC).trans q
      · rw [zt (zr q nD)];exact q
      · rw [zt (zr q nD)];exact q
  exact I.call' (s' := { s4 with heap := h' }) (ch := fp) I4.os u' hok I4.bare fun b hb => by
    obtain ⟨_, f1, _, f3, f4, f5⟩ := hfp b hb;exact ⟨f3, f1, f4, f5⟩
end
noncomputable def z0g (J : It) (σ : St) (ix : List Nat) (tc : TT) (te : TE) (Q : List V → Hp → Prop) (H1 : Hp) : Prop :=
  ∃ W : Nat → Nat → List V → Hp → Prop, (∃ m, W 0 m [] H1) ∧ ∀ i m ys H, W i m ys H → ys.length < sizeLine ∧
    ((J.stop i H ∧ Q ys H) ∨ (J.go i H ∧ ∃ (NY : V → Hp → Prop) (NN : Hp → Prop), (∀ y H3, NY y H3 → ∃ m', m' < m ∧ W (i + 1) m' (ys ++ [y]) H3) ∧ (∀ H2, NN H2 → ∃ m', m' < m ∧ W (i + 1) m' ys H2) ∧
      ∀ x H', J.yld i H x H' → tc (sub σ ix (some x)) H' fun b H2 => if b = true then te (sub σ ix (some x)) H2 NY else NN H2))
section
variable {X : Cx} {elt iter : Expr} {ifs : List Expr} {x : Str} {px : Pos} {scope : Scope} {pos : Pos} {wi : TI} {tc : TT} {te : TE} {fr : List Str} {ix : List Nat}
theorem z3N {pins : List (Addr × Obj)} {σ : St} {H : Hp} {s : Shared} {fp : List Addr} {it : Addr} {tn : Nat → Heap → Prop} {J : It} {R : Result → Shared → Prop} {Q : List V → Hp → Prop} (hc : X.calm = true) (S : CompSc X scope x fr ix)
    (hel : ∀ C cells s₀ H₀ ex pins, PE (jN X scope (x :: fr) C cells s₀ H₀ ex pins) elt te) (hif : ∀ C cells s₀ H₀ ex pins, z7Z (jN X scope (x :: fr) C cells s₀ H₀ ex pins) ifs tc)
    (I : Inv X pins σ H s) (T : Turn X.prog X.w X.K (.Name x px) J fp it tn) (st : tn 0 s.heap) (hfp : ∀ b ∈ fp, z3x X pins H b) (h : z0g J σ ix tc te Q H)
    (hR : ∀ s4 ys H4, (∃ m, s4.heap.Ns (s.heap.push je).objs.size m) → Q ys H4 → H4 s.heap.objs.size = none → H4 (s.heap.push je).objs.size = none → (∀ h', Heap.SameBut (s.heap.push je).objs.size s4.heap h' → Inv X pins σ (upd H4 s.heap.objs.size (.lst ys)) { s4 with heap := h' }) → R (.ok .next) s4) :
    codeAny (model X.prog X.w) X.A (.compLoop (.ListComp elt [⟨.Name x px, iter, ifs, 0⟩] scope pos) 0 (.ref it) (.ref s.heap.objs.size)
      (compEnvC scope (cellsFrom ((s.heap.push je).push kH).objs.size scope.names (yB X.env scope.names [])) (s.heap.push je).objs.size X.env)) R { s with heap := pushCells ((s.heap.push je).push kH) scope.names } := by
  obtain ⟨W, ⟨m0, w0⟩, turn⟩ := h;have hlt : ∀ b ∈ fp, b < s.heap.objs.size := fun b hb => by
    obtain ⟨o, e, _⟩ := T.obj 0 _ st b hb;exact Heap.lt_size e
  have I0 := z7b S I hfp hlt;have z1 : (s.heap.push je).objs.size = s.heap.objs.size + 1 := Heap.size_push ..;have up : ∀ b o, s.heap.get? b = some o → (pushCells ((s.heap.push je).push kH) scope.names).get? b = some o := fun b o e => pushCells_keeps _ _ b o (Heap.get?_push_of_some _ (Heap.get?_push_of_some _ e))
  have oD0 : (pushCells ((s.heap.push je).push kH) scope.names).get? s.heap.objs.size = some { cls := .type "list", data := .seq ([] : List Value).toArray } :=
    pushCells_keeps _ _ _ _ (Heap.get?_push_of_some _ (Heap.get?_push_size _ rfl))
  have clo' : ∀ y ∈ scope.names, y.2 = .free → ∃ c, X.env.cells.lookup y.1 = some c := fun y hy hk => I.ok.has y.1 (S.clo y hy hk)
  have cellsD : ∀ y c, (cellsFrom ((s.heap.push je).push kH).objs.size scope.names (yB X.env scope.names [])).lookup y = some c → c ≠ s.heap.objs.size := fun y c e => by
    rcases z2D scope.names ((s.heap.push je).push kH) (yB X.env scope.names []) y c e with ⟨_, a2, _⟩ | a
    · rw [Heap.size_push, z1] at a2;exact Nat.ne_of_gt (Nat.lt_of_lt_of_le (Nat.lt_succ_of_lt (Nat.lt_succ_self _)) a2)
    · obtain ⟨v, q⟩ := I.cell y c (z0S scope.names [] clo' (fun y c e => by simp at e) y c a);exact Nat.ne_of_lt q.lt
  generalize cellsFrom ((s.heap.push je).push kH).objs.size scope.names (yB X.env scope.names []) = cells at I0 cellsD ⊢;generalize hCe : (s.heap.push je).objs.size = C at I0 hR z1 ⊢;generalize hDe : s.heap.objs.size = D at z1 oD0 cellsD hlt hR ⊢;have hDC : D ≠ C := by omega
  have DleD : s.heap.objs.size ≤ D := by omega
  have DleC : s.heap.objs.size ≤ C := by omega
  have pnD : ∀ p ∈ X.pn ++ pins, p.1 ≠ D := fun p hp => by
    have := Heap.lt_size (I.pin p hp).1;exact Nat.ne_of_lt (hDe ▸ this)
  have Dfs : D ∉ frs X.stack := fun z => by
    rcases List.mem_cons.mp (I.stkSub D z) with e | e
    · have := I.lt;rw [← e, hDe] at this;exact Nat.lt_irrefl _ this
    · exact I.nofs DleD e
  have hNd : (x :: fr).Nodup := S.nd;have hxl : Loc (relabel scope X.env) x := by
    rcases S.xloc with q | q
    · exact .inl (yu (env := X.env) q)
    · exact .inr (yu (env := X.env) q)
  have hxf : (jN X scope (x :: fr) C cells s H fp pins).fn x = true ∨ (jN X scope (x :: fr) C cells s H fp pins).env.scope.names.lookup x = some .local := by
    rcases S.xloc with q | q
    · exact .inr (yu (env := X.env) q)
    · exact .inl (decide_eq_true (lookup_mem q))
  refine z4h (fun n s' => ∃ i ys its k ox H', Inv (jN X scope (x :: fr) C cells s H fp pins) [] (sub σ ix ox) H' s' ∧ tn i s'.heap ∧ (∀ b ∈ fp, H' b = none) ∧ s'.heap.get? D = some { cls := .type "list", data := .seq its.toArray k } ∧ H' D = none ∧ zP ys its ∧ W i n ys H') ?_ m0
    ⟨0, [], [], 0, none, H, I0, T.keep _ _ _ st fun b hb o e => up b o e, fun b hb => (hfp b hb).1, oD0, I.hok.fresh DleD, .nil, w0⟩
  rintro n s3 ⟨i, ys, its, k, ox, H3, I3, st3, fr3, oD3, nD3, rv3, w3⟩;obtain ⟨hys, hcase⟩ := turn i n ys H3 w3;have hlen := rv3.length;have DC' : D ≠ (jN X scope (x :: fr) C cells s H fp pins).env.locals := hDC;have I3p : Inv (jN X scope (x :: fr) C cells s H fp pins) [(D, { cls := .type "list", data := .seq its.toArray k })] (sub σ ix ox) H3 s3 := I3.pins_of fun p hp => by
    rw [List.mem_singleton.mp hp];exact ⟨oD3, nD3, DC', Dfs, fun v z => by cases z⟩
  have fpY : ∀ {H' : Hp}, (∀ b ∈ fp, H' b = none) → ∀ b ∈ fp, z3x (jN X scope (x :: fr) C cells s H fp pins) [(D, { cls := .type "list", data := .seq its.toArray k })] H' b := fun {H'} hn b hb => by
    obtain ⟨e1, e2⟩ := I3.ok.exf b hb;refine ⟨hn b hb, e1, I3.ok.exfs b hb, .inl hb, e2, fun p hp => ?_⟩;rcases List.mem_append.mp hp with hp | hp
    · exact (hfp b hb).2.2.2.2.2 p hp
    · rw [List.mem_singleton.mp hp];have := hlt b hb;exact Nat.ne_of_gt this
  rcases hcase with ⟨stop, q⟩ | ⟨go, NY, NN, hNY, hNN, step⟩
  · refine thn (T.done (jN X scope (x :: fr) C cells s H fp pins) rfl rfl rfl hc i _ s3 _ H3 _ I3p (fpY fr3) st3 stop) fun r s4 ⟨hr, I4⟩ => ?_
    subst hr;have oD4 := (I4.pin (D, { cls := .type "list", data := .seq its.toArray k }) (List.mem_append_right _ (List.mem_singleton.mpr rfl))).1;obtain ⟨m, hn, _⟩ := I4.loc;exact hR s4 ys H3 ⟨m, hn⟩ q nD3 I4.free fun h' sb => z7Q I hfp I4 DleD DleC hDC nD3 oD4 rv3 (Nat.le_of_lt hys) sb
  · refine thn (T.item (jN X scope (x :: fr) C cells s H fp pins) rfl rfl rfl hc i _ s3 _ H3 _ I3p (fpY fr3) st3 go) fun r s4 ⟨u, hr, h4⟩ => ?_
    subst hr;refine thn h4 fun _ s5 ⟨v, H5, I5, r5, y5, st5, fr5⟩ => ?_
    have I5' := I5.pinned (fpY fr5) (T.obj _ _ st5);refine wpAny_assign_Name (z2I (i := 0) I5' hNd rfl hxl r5 (fun s6 I6 => ?_) hxf);have q6 := step v H5 y5;have I6' : Inv (jN X scope (x :: fr) C cells s H fp pins) ([(D, { cls := .type "list", data := .seq its.toArray k })] ++ z26 fp s5.heap) (sub σ ix (some v)) H5 s6 := I6;refine wpAny_mono (hif C cells s H fp pins _ s6 _ H5 _ I6' q6) (fun b s7 ⟨H7, I7, q7⟩ => ?_) fun _ _ z => z.elim
    have tnK : ∀ {H8 : Hp} {s8 : Shared} {σ8 : St}, Inv (jN X scope (x :: fr) C cells s H fp pins) ([(D, { cls := .type "list", data := .seq its.toArray k })] ++ z26 fp s5.heap) σ8 H8 s8 → tn (i + 1) s8.heap ∧ (∀ b ∈ fp, H8 b = none) ∧ s8.heap.get? D = some { cls := .type "list", data := .seq its.toArray k } ∧ H8 D = none := fun {H8 s8 σ8} I8 => by
      refine ⟨T.keep _ _ _ st5 fun b hb o e => (I8.pin (b, o) (List.mem_append_right _ (List.mem_append_right _ (z0u hb e)))).1, fun b hb => ?_, ?_, ?_⟩
      · obtain ⟨o, e, d⟩ := T.obj _ _ st5 b hb;exact (I8.pin (b, o) (List.mem_append_right _ (List.mem_append_right _ (z0u hb e)))).2.1
      · exact (I8.pin (D, { cls := .type "list", data := .seq its.toArray k }) (List.mem_append_right _ (List.mem_append_left _ (List.mem_singleton.mpr rfl)))).1
      · exact (I8.pin (D, { cls := .type "list", data := .seq its.toArray k }) (List.mem_append_right _ (List.mem_append_left _ (List.mem_singleton.mpr rfl)))).2.1
    cases b with
    | false =>
      rw [if_neg Bool.false_ne_true] at q7 ⊢;obtain ⟨m', hm, w7⟩ := hNN _ q7;obtain ⟨t1, t2, t3, t4⟩ := tnK I7;exact ⟨m', hm, i + 1, ys, its, k, some v, H7, I7.pins_of fun p hp => (by cases hp), t1, t2, t3, t4, rv3, w7⟩
    | true =>
      rw [if_pos rfl] at q7 ⊢;refine wpAny_mono (hel C cells s H fp pins _ s7 _ H7 _ I7 q7) (fun y s8 ⟨w, H8, I8, r8, q8⟩ => ?_) fun _ _ z => z.elim
      obtain ⟨m', hm, w8⟩ := hNY _ _ q8;obtain ⟨t1, t2, t3, t4⟩ := tnK I8;refine call_meets F.slot_list_append ⟨_, t3, rfl⟩ F.entry_list_append (F.args_list_append_2 _ _) (PySem.list_append D its.toArray k y (by rw [List.size_toArray]; omega)) ⟨t3, ?_⟩;obtain ⟨k9, oD9⟩ : ∃ k9, (s8.heap.update D (Obj.mapSeq (·.push y))).get? D = some { cls := .type "list", data := .seq (its ++ [y]).toArray k9 } := ⟨_, by
        rw [show (its ++ [y]).toArray = its.toArray.push y by simp];exact PySem.IsL.update t3 (·.push y)⟩
      have I8n : Inv (jN X scope (x :: fr) C cells s H fp pins) [] (sub σ ix (some v)) H8 s8 := I8.pins_of fun p hp => (by cases hp)
      have I9 := Inv.turned (it := D) (t' := s8.toks) (h' := s8.heap.update D (Obj.mapSeq (·.push y))) I8n (fun b o hb e => (Heap.get?_update_other s8.heap _ (Ne.symm hb)).trans e) t4 DC' (.inr DleD) cellsD (fun p hp => pnD p (by simpa using hp));exact ⟨m', hm, i + 1, ys ++ [w], its ++ [y], k9, some v, H8, I9, T.keep _ _ _ t1 fun b hb o e => (Heap.get?_update_other s8.heap _ (Nat.ne_of_gt (hlt b hb))).trans e, t2, oD9, t4, rv3.append (.cons r8 .nil), w8⟩
noncomputable def zat (wi : TI) (ix : List Nat) (tc : TT) (te : TE) : TE := fun σ H Q => wi σ H fun J H1 => z0g J σ ix tc te (fun ys H2 => ∀ p, H2 p = none → Q (.ref p) (upd H2 p (.lst ys))) H1
theorem jR (hc : X.calm = true) (S : CompSc X scope x fr ix) (hi : PI X (.Name x px) iter wi)
    (hif : ∀ C cells s₀ H₀ ex pins, z7Z (jN X scope (x :: fr) C cells s₀ H₀ ex pins) ifs tc) (hel : ∀ C cells s₀ H₀ ex pins, PE (jN X scope (x :: fr) C cells s₀ H₀ ex pins) elt te)
    (hs : ∀ x, foldedSetIterable iter X.env x = pure x := by intro _; rfl) : PE X (.ListComp elt [⟨.Name x px, iter, ifs, 0⟩] scope pos) (zat wi ix tc te) := by
  intro pins s σ H Q I h;rw [eval_ListComp];have clo' : ∀ y ∈ scope.names, y.2 = .free → ∃ c, X.env.cells.lookup y.1 = some c := fun y hy hk => I.ok.has y.1 (S.clo y hy hk)
  refine wpAny_comprehension_free (use := none) rfl hs (ky clo') S.kind S.names (thn (hi pins s σ H _ I h) fun v s1 h1 => thn h1 fun itv s2 h2 => ?_);obtain ⟨it, fp, tn, J, H2, rfl, I2, T, st2, f2, hw⟩ := h2;refine wpAny_newObj_type (z2g ?_);have st3 : tn 0 (pushCells ((s2.heap.push je).push kH) scope.names) := T.keep _ _ _ st2 fun b hb o e => pushCells_keeps _ _ b o (Heap.get?_push_of_some _ (Heap.get?_push_of_some _ e))
  have loop := z3N (px := px) (iter := iter) (pos := pos) (R := compPost (model X.prog X.w) X.A X.xe none (EP X pins σ Q) (.ref s2.heap.objs.size) (s2.heap.push je).objs.size) hc S hel hif I2 T st2 f2 hw
    (fun s4 ys H4 ⟨m, hn⟩ q nD nC hb => ⟨m, hn, fun h' sb => ⟨.ref s2.heap.objs.size, _, hb h' sb, rfl, q _ nD⟩⟩)
  exact codeAny_compStart_list loop (T.self _ _ _ _ _ st3 loop)
noncomputable def z8o (j : Nat) (wi : TI) (ix : List Nat) (tc : TT) (te : TE) : TS := fun D σ H => wi σ H fun J H1 => z0g J σ ix tc te (fun ys H2 => ∀ p, H2 p = none → D.nx (σ.set j (some (.ref p))) (upd H2 p (.lst ys))) H1
theorem yb {j : Nat} {y : Str} {py spos : Pos} (hc : X.calm = true) (hN : X.N.Nodup) (hj : X.N[j]? = some y) (hy : Loc X.env.scope y) (S : CompSc X scope x fr ix) (hi : PI X (.Name x px) iter wi)
    (hif : ∀ C cells s₀ H₀ ex pins, z7Z (jN X scope (x :: fr) C cells s₀ H₀ ex pins) ifs tc) (hel : ∀ C cells s₀ H₀ ex pins, PE (jN X scope (x :: fr) C cells s₀ H₀ ex pins) elt te)
    (hs : ∀ x, foldedSetIterable iter X.env x = pure x := by intro _; rfl)
    (hsw : swapsWith (.ListComp elt [⟨.Name x px, iter, ifs, 0⟩] scope pos) (some (.Name y py)) spos.line X.env = pure true := by rfl)
    (hf : X.fn y = true ∨ X.env.scope.names.lookup y = some .local := by first | exact .inl rfl | exact .inr rfl | assumption) :
    PS X (.Assign [.Name y py] (.ListComp elt [⟨.Name x px, iter, ifs, 0⟩] scope pos) spos) (z8o j wi ix tc te) := by
  intro pins s σ H D I h;rw [exec_Assign_Name_used _ _ _ _ hsw];refine wpAny_bind (wpAny_standAt (wpAny_bind ?_))
  show wpAny _ X.A (do let _ ← comprehension (.ListComp elt [⟨.Name x px, iter, ifs, 0⟩] scope pos) scope X.env _ (newList []) false (eval iter X.env) (some (assign (.Name y py) X.env))) _ _ s
  have clo' : ∀ y ∈ scope.names, y.2 = .free → ∃ c, X.env.cells.lookup y.1 = some c := fun y hy hk => I.ok.has y.1 (S.clo y hy hk)
  refine wpAny_bind (wpAny_mono (wpAny_comprehension_free (use := some (assign (.Name y py) X.env)) (Q := fun _ s' => SP X pins D .next s') rfl hs (ky clo') S.kind S.names
    (thn (hi pins s σ H _ I h) fun v s1 h1 => thn h1 fun itv s2 h2 => ?_)) (fun _ s' hq => wpAny_pure (wpAny_pure hq)) fun _ _ e => e)
  obtain ⟨it, fp, tn, J, H2, rfl, I2, T, st2, f2, hw⟩ := h2;refine wpAny_newObj_type (z2g ?_);have st3 : tn 0 (pushCells ((s2.heap.push je).push kH) scope.names) := T.keep _ _ _ st2 fun b hb o e => pushCells_keeps _ _ b o (Heap.get?_push_of_some _ (Heap.get?_push_of_some _ e))
  have z1 : (s2.heap.push je).objs.size = s2.heap.objs.size + 1 := Heap.size_push ..;have loop := z3N (px := px) (iter := iter) (pos := pos) (R := compPost (model X.prog X.w) X.A X.xe (some (assign (.Name y py) X.env)) (fun _ s' => SP X pins D .next s') (.ref s2.heap.objs.size) (s2.heap.push je).objs.size) hc S hel hif I2 T st2 f2 hw
    (fun s4 ys H4 ⟨m, hn⟩ q nD nC4 hb => by
      have I5 : Inv X pins σ (upd H4 s2.heap.objs.size (.lst ys)) s4 := hb s4.heap (Heap.SameBut.refl ..);have CL : (s2.heap.push je).objs.size ≠ X.env.locals := by rw [z1]; exact Nat.ne_of_gt (Nat.lt_succ_of_lt I2.lt)
      have CC : ∀ z c, X.env.cells.lookup z = some c → c ≠ (s2.heap.push je).objs.size := fun z c e => by
        obtain ⟨v, w⟩ := I2.cell z c e;rw [z1];exact Nat.ne_of_lt (Nat.lt_succ_of_lt w.lt)
      show wpAny _ X.A (assign (.Name y py) X.env (.ref s2.heap.objs.size)) _ _ s4
      refine wpAny_assign_Name (z3K (v := .ref s2.heap.objs.size) I5 hN hj hy rfl (fun s6 I6 ⟨a, sa, ha⟩ => ?_) hf);have aC : (s2.heap.push je).objs.size ≠ a := by
        rcases ha with e | e
        · rw [e]; exact CL
        · exact (CC _ _ e).symm
      refine ⟨m, hn.sameBut sa aC, fun h6 sb6 => ?_⟩;have nC : upd H4 s2.heap.objs.size (.lst ys) (s2.heap.push je).objs.size = none := by
        rw [zt (by rw [z1]; exact Nat.succ_ne_self _)];exact nC4
      have I7 := Inv.turned (it := (s2.heap.push je).objs.size) (t' := s6.toks) (h' := h6) I6 (fun b o hb e => (sb6.2 b hb).trans e) nC CL (.inr (by rw [z1]; exact Nat.le_succ_of_le I2.sz)) CC (fun p hp => by
        rw [z1];exact Nat.ne_of_lt (Nat.lt_succ_of_lt (Heap.lt_size (I2.pin p hp).1)))
      exact ⟨_, _, I7, q _ nD⟩)
  exact codeAny_compStart_list loop (T.self _ _ _ _ _ st3 loop)
end
end L2

namespace L2
open PySem PySem.Spec PyProof.Rows
noncomputable def z4J (sx : Scope) (NX : List Str) (scope : Scope) (x : Str) (fr : List Str) (ix : List Nat) : Bool :=
  (scope.kind == .function) && scope.names.all (fun y => y.2 != .local || scope.names.lookup y.1 == some .local) && decide ((scope.names.map (·.1)).Nodup) &&
  (scope.names.lookup x == some .local || scope.names.lookup x == some .cell) && scope.names.all (fun y => y.2 != .free || (sx.names.lookup y.1 == some .cell || sx.names.lookup y.1 == some .free)) &&
  decide (fr.length = ix.length) && decide ((x :: fr).Nodup) && (fr.zip ix).all fun p => NX[p.2]? == some p.1 && scope.names.lookup p.1 == some .free
theorem CompSc.of {X : Cx} {scope sx : Scope} {NX : List Str} {x : Str} {fr : List Str} {ix : List Nat} (hs : X.env.scope = sx) (hN : X.N = NX) (h : z4J sx NX scope x fr ix = true) : CompSc X scope x fr ix := by
  simp only [z4J, Bool.and_eq_true, decide_eq_true_eq, beq_iff_eq, List.all_eq_true, Bool.or_eq_true, bne_iff_ne, ne_eq] at h;obtain ⟨⟨⟨⟨⟨⟨⟨h1, h2⟩, h3⟩, h4⟩, h5⟩, h6⟩, h7⟩, h8⟩ := h;refine ⟨h1, fun y hy hk => ?_, h3, h4, fun y hy hk => ?_, fun k y e => ?_, h7, h6⟩
  · rcases h2 y hy with q | q
    · exact absurd hk q
    · exact q
  · show X.env.scope.names.lookup y.1 = _ ∨ X.env.scope.names.lookup y.1 = _
    rw [hs];rcases h5 y hy with q | q
    · exact absurd hk q
    · exact q
  · have hk : k < ix.length := by rw [← h6]; exact (List.getElem?_eq_some_iff.mp e).1
    have hz : (fr.zip ix)[k]? = some (y, ix[k]) := by
      rw [List.getElem?_zip_eq_some];exact ⟨e, List.getElem?_eq_getElem hk⟩
    obtain ⟨a1, a2⟩ := h8 _ (List.mem_of_getElem? hz);exact ⟨ix[k], List.getElem?_eq_getElem hk, by rw [hN]; exact a1, a2⟩
noncomputable def z9r (scope sx : Scope) : Scope :=
  { scope with names := scope.names.map fun (n, k) => if (k == .free && sx.kind == .function && sx.names.lookup n == some .cell) then (n, .cell) else (n, k) }
theorem CompSc.of2 {X : Cx} {scope1 scope sx : Scope} {N1 NX : List Str} {C : Addr} {cells : List (Str × Addr)} {s₀ : Shared} {H₀ : Hp} {ex : List Addr} {pins : List (Addr × Obj)} {x : Str} {fr : List Str} {ix : List Nat} (hs : X.env.scope = sx) (hN : N1 = NX) (h : z4J (z9r scope1 sx) NX scope x fr ix = true) :
    CompSc (jN X scope1 N1 C cells s₀ H₀ ex pins) scope x fr ix := by
  refine CompSc.of (sx := z9r scope1 sx) ?_ hN h;subst hs
  rfl
theorem z02 {K : PySem.W.Frag} {a : Addr} {xs : List V} {σ : St} {ix : List Nat} {tc : TT} {te : TE} {Q : List V → Hp → Prop} {H : Hp} (Pv : Nat → List V → Hp → Prop) (h0 : Pv 0 [] H) (hl : ∀ i ys H, i ≤ xs.length → Pv i ys H → SqL K H a xs ∧ ys.length < sizeLine)
    (hs : ∀ (i : Nat) x ys H, xs[i]? = some x → Pv i ys H → tc (sub σ ix (some x)) H fun b H2 => if b = true then te (sub σ ix (some x)) H2 fun y H3 => Pv (i + 1) (ys ++ [y]) H3 else Pv (i + 1) ys H2) (hd : ∀ ys H, Pv xs.length ys H → Q ys H) : z0g (Itl K a) σ ix tc te Q H := by
  refine ⟨fun i m ys H => m = xs.length - i ∧ i ≤ xs.length ∧ Pv i ys H, ⟨_, rfl, Nat.zero_le _, h0⟩, ?_⟩;rintro i m ys H ⟨rfl, hi, p⟩;obtain ⟨q, hz⟩ := hl i ys H hi p;refine ⟨hz, ?_⟩;by_cases hlt : i < xs.length
  · refine .inr ⟨⟨xs, xs[i], q, by simp [hlt]⟩, fun y H3 => Pv (i + 1) (ys ++ [y]) H3, fun H2 => Pv (i + 1) ys H2, fun y H3 z => ⟨xs.length - (i + 1), by omega, rfl, hlt, z⟩, fun H2 z => ⟨xs.length - (i + 1), by omega, rfl, hlt, z⟩, fun x H' y => ?_⟩;obtain ⟨e, y⟩ := y;subst e;exact hs i x ys _ (y xs q) p
  · have e : i = xs.length := by omega
    subst e;exact .inl ⟨⟨xs, q, Nat.le_refl _⟩, hd ys H p⟩
theorem z5z {lo : Int} {n : Nat} {σ : St} {ix : List Nat} {tc : TT} {te : TE} {Q : List V → Hp → Prop} {H : Hp} (Pv : Nat → List V → Hp → Prop) (h0 : Pv 0 [] H) (hl : ∀ i ys H, i ≤ n → Pv i ys H → ys.length < sizeLine)
    (hs : ∀ (i : Nat) ys H, i < n → Pv i ys H → tc (sub σ ix (some (.int (lo + i)))) H fun b H2 => if b = true then te (sub σ ix (some (.int (lo + i)))) H2 fun y H3 => Pv (i + 1) (ys ++ [y]) H3 else Pv (i + 1) ys H2) (hd : ∀ ys H, Pv n ys H → Q ys H) : z0g (Itr lo n) σ ix tc te Q H := by
  refine ⟨fun i m ys H => m = n - i ∧ i ≤ n ∧ Pv i ys H, ⟨_, rfl, Nat.zero_le _, h0⟩, ?_⟩;rintro i m ys H ⟨rfl, hi, p⟩;refine ⟨hl i ys H hi p, ?_⟩;by_cases hlt : i < n
  · refine .inr ⟨hlt, fun y H3 => Pv (i + 1) (ys ++ [y]) H3, fun H2 => Pv (i + 1) ys H2, fun y H3 z => ⟨n - (i + 1), by omega, rfl, hlt, z⟩, fun H2 z => ⟨n - (i + 1), by omega, rfl, hlt, z⟩, fun x H' y => ?_⟩;obtain ⟨e, y⟩ := y;subst e y;exact hs i ys _ hlt p
  · have e : i = n := by omega
    subst e;exact .inl ⟨Nat.le_refl _, hd ys H p⟩
theorem jD {K : PySem.W.Frag} {a : Addr} {xs : List V} {σ : St} {ix : List Nat} {te : TE} {Q : List V → Hp → Prop} {H : Hp} (Pv : Nat → List V → Hp → Prop) (h0 : Pv 0 [] H) (hl : ∀ i ys H, i ≤ xs.length → Pv i ys H → SqL K H a xs ∧ ys.length < sizeLine)
    (hs : ∀ (i : Nat) x ys H, xs[i]? = some x → Pv i ys H → te (sub σ ix (some x)) H fun y H3 => Pv (i + 1) (ys ++ [y]) H3) (hd : ∀ ys H, Pv xs.length ys H → Q ys H) : z0g (Itl K a) σ ix z59 te Q H :=
  z02 Pv h0 hl (fun i x ys H e p => z5V (A := te (sub σ ix (some x)) H fun y H3 => Pv (i + 1) (ys ++ [y]) H3) (B := Pv (i + 1) ys H) (hs i x ys H e p)) hd
theorem kE {lo : Int} {n : Nat} {σ : St} {ix : List Nat} {te : TE} {Q : List V → Hp → Prop} {H : Hp} (Pv : Nat → List V → Hp → Prop) (h0 : Pv 0 [] H) (hl : ∀ i ys H, i ≤ n → Pv i ys H → ys.length < sizeLine)
    (hs : ∀ (i : Nat) ys H, i < n → Pv i ys H → te (sub σ ix (some (.int (lo + i)))) H fun y H3 => Pv (i + 1) (ys ++ [y]) H3) (hd : ∀ ys H, Pv n ys H → Q ys H) : z0g (Itr lo n) σ ix z59 te Q H :=
  z5z Pv h0 hl (fun i ys H e p => z5V (A := te (sub σ ix (some (.int (lo + i)))) H fun y H3 => Pv (i + 1) (ys ++ [y]) H3) (B := Pv (i + 1) ys H) (hs i ys H e p)) hd
theorem z6q : ∀ (us : List Value) (ss : List Str), us.length = ss.length → (∀ (j : Nat) (u : Value), us[j]? = some u → ∃ x t, ss[j]? = some x ∧ u = Value.str x t) → StrsAre us ss
  | [], [], _, _ => .nil
  | [], _ :: _, h, _ => by simp at h
  | _ :: _, [], h, _ => by simp at h
  | u :: us, s :: ss, h, hj => by
    obtain ⟨x, t, e1, e2⟩ := hj 0 u rfl;have e1' : s = x := Option.some.inj e1;subst e1' e2;exact .cons _ _ (z6q us ss (by simpa using h) fun j u' e => hj (j + 1) u' e)
theorem z42 : ∀ {us : List Value} {ss : List Str}, StrsAre us ss → zP (ss.map V.str) us
  | _, _, .nil => .nil
  | _, _, .cons _ t r => .cons ⟨t, rfl⟩ (z42 r)
section
variable {X : Cx}
theorem z3C (hc : X.calm = true) : kf X (.builtin "sorted") (fun xs H Q => ∃ d kvs ss, xs = [.ref d] ∧ H d = some (.dK kvs) ∧ kvs.map (·.1) = ss.map Sum.inr ∧ kvs.length < 64 ∧
    ∀ l ss', H l = none → ss'.Perm ss → sortedS ss' = true → Q (.ref l) (upd H l (.lst (ss'.map V.str)))) := by
  intro pins s σ H xs us Q I r h;obtain ⟨d, kvs, ss, rfl, hd, hk, h64, q⟩ := h;obtain ⟨u, rfl, rx⟩ := vals1 r;cases rx;obtain ⟨hz, hS, vs, rel, m⟩ : kvs.length ≤ sizeLine ∧ (d == sysModules) = false ∧ ∃ vs, KV kvs vs ∧ s.heap.DictOf (jh X.prog X.w) d vs := I.hok d _ hd
  obtain ⟨ep, hat⟩ := m.dictAt;have hlen : kvs.length = vs.length := Paired.length rel;have hkeys : vs.map (·.1) = ss.map Sum.inr := (KV.keys rel).symm.trans hk;have hss : vs.length = ss.length := by
    have := congrArg List.length hkeys
    rwa [List.length_map, List.length_map] at this
  refine Calls.call_function_entry kind_sorted plain_sorted entry_sorted (args_sorted1 _) ?_;unfold Builtin.«sorted»;refine wpAny_bind (m := checkCount "sorted" 1 1 _) (wpAny_pure ?_);refine wpAny_bind (PySem.W.kdu_collect (A := X.A.in1) (PySem.W.kdl_dict (knd := jh X.prog X.w) (kvs := vs) (ep := ep) hS) (I.ok.hd hc) hat (by omega) fun h' tk acc hkp hacc => ?_);obtain ⟨ha1, ha2⟩ := hacc;have hl : acc.toList.length = ss.length := by rw [Array.length_toList, ha1, hss]
  have hS' : StrsAre acc.toList ss := z6q _ _ hl fun j u e => by
    obtain ⟨k, x, hx, hv⟩ := ha2 j u (by rw [← Array.getElem?_toList]; exact e);have hj : j < ss.length := by rw [← hl]; exact (List.getElem?_eq_some_iff.mp e).1
    have e1 : (vs.map (·.1))[j]? = some k := by rw [List.getElem?_map, hx]; rfl
    rw [hkeys, List.getElem?_map, List.getElem?_eq_getElem hj] at e1;have e2 : (Sum.inr ss[j] : Key) = k := Option.some.inj e1;subst e2;rcases jj (show z2k (Sum.inr ss[j]) u = true from hv) with ⟨i, t, e3, _⟩ | ⟨y, t, e3, e4⟩
    · cases e3
    · cases e3;exact ⟨_, t, List.getElem?_eq_getElem hj, e4⟩
  have hl64 : acc.toList.length < 64 := by omega
  have I1 : Inv X pins σ H { s with heap := h', toks := tk } := I.kept hkp;refine wpAny_bind (wpAny_newList ?_ (zq (by omega)));have hoL : (h'.push (seqObj "list" acc.toList.toArray 0)).get? h'.objs.size = some (seqObj "list" acc.toList.toArray 0) := Heap.get?_push_size _ rfl;refine wpAny_bind (wpAny_holding (wpAny_call_entry slot_list_sort ⟨_, hoL, rfl⟩ entry_list_sort (list_sort_treeK strKind_oneLt hoL hS'.keysOf (fun v₁ v₂ rest e => keyKind_strs (by rw [← e]; exact hS')) hl64 fun st' a1 a2 => ⟨_, rfl, ?_⟩) (args_list_sort _)));refine wpAny_pure ⟨_, rfl, ?_⟩;obtain ⟨ss', b1, b2, b3⟩ := sorted_out_str hS' a1 a2;obtain ⟨e, he⟩ := sortedHeap_at (out := (arrOf st').map (·.2)) hoL;refine ⟨.ref h'.objs.size, upd H h'.objs.size (.lst (ss'.map V.str)), ?_, rfl, q _ ss' I1.fresh b2 b3⟩;refine I1.laid (a := h'.objs.size) (t' := tk) (fun b o e => ?_) (Nat.le_refl _) ⟨?_, _, e, z42 b1, ?_⟩
  · have hb := Heap.lt_size e;rw [sortedHeap_old (Nat.ne_of_lt hb) (by rw [Heap.size_push]; exact Nat.lt_succ_of_lt hb)];exact Heap.get?_push_of_some _ e
  · rw [List.length_map, b2.length_eq];exact zq (by omega)
  · show (sortedHeap (h'.push (seqObj "list" acc.toList.toArray 0)) h'.objs.size acc.toList ((arrOf st').map (·.2))).get? h'.objs.size = some (seqObj "list" ((arrOf st').map (·.2)).toList.toArray e)
    rw [Array.toArray_toList];exact he
end
noncomputable def leS (a b : Str) : Prop := ¬ b.cps.toList < a.cps.toList
theorem z73 {a b c : Str} (h1 : leS a b) (h2 : leS b c) : leS a c := List.le_trans (α := Nat) h1 h2
theorem z8n {a b : Str} (h : (!ltCps b.cps.toList a.cps.toList) = true) : leS a b := by
  rw [ltCps_eq, Bool.not_eq_true', decide_eq_false_iff_not] at h;exact h
theorem z3X : ∀ (p : Str) (l : List Str), risingS p l = true → (p :: l).Pairwise leS
  | p, [], _ => List.pairwise_singleton _ _
  | p, x :: r, h => by
    rw [show risingS p (x :: r) = (!ltCps x.cps.toList p.cps.toList && risingS x r) from rfl, Bool.and_eq_true] at h;have ih := z3X x r h.2;refine List.pairwise_cons.mpr ⟨fun y hy => ?_, ih⟩;rcases List.mem_cons.mp hy with e | hy
    · rw [e]; exact z8n h.1
    · exact z73 (z8n h.1) (List.rel_of_pairwise_cons ih hy)
theorem z7d : ∀ {l : List Str}, sortedS l = true → l.Pairwise leS
  | [], _ => .nil
  | x :: r, h => z3X x r h
theorem ko {α : Type} [DecidableEq α] : ∀ {l us : List α}, l.Nodup → (∀ x ∈ l, x ∈ us) → l.length ≤ us.length
  | [], _, _, _ => Nat.zero_le _
  | x :: l, us, hn, hs => by
    obtain ⟨h1, h2⟩ := List.nodup_cons.mp hn;have hx : x ∈ us := hs x List.mem_cons_self;have ih := ko (l := l) (us := us.erase x) h2 fun y hy => (List.mem_erase_of_ne (fun e => h1 (by rw [← e]; exact hy))).mpr (hs y (List.mem_cons_of_mem _ hy))
    rw [List.length_erase_of_mem hx] at ih;have : 0 < us.length := List.length_pos_of_mem hx;rw [List.length_cons];omega
theorem z5f {i : Nat} {v : V} {σ : St} {H : Hp} {Q : St → Hp → Prop} (h : Q (σ.set i (some v)) H) : z7z i v σ H Q := h
theorem z6m {t u : TS} {D : Ends} {σ : St} {H : Hp} (h : t { D with nx := u D } σ H) : zaq t u D σ H := h
section
variable {X : Cx} {K : PySem.W.Frag}
theorem yj (h : X.K = K) : IxR X (zaB K) := by subst h; exact zz
theorem kw (h : X.K = K) : IxR X (zak K) := by subst h; exact zj
theorem z3q (h : X.K = K) : kf X (.builtin "len") (fun xs H Q => ∃ p ys, xs = [.ref p] ∧ (SqL K H p ys ∨ SqT K H p ys) ∧ Q (.int ys.length) H) := by subst h; exact zu
theorem z15 (h : X.K = K) : kf X (.type "list") (fun xs H Q => ∃ p ys, xs = [.ref p] ∧ (SqL K H p ys ∨ SqT K H p ys) ∧ ∀ l, H l = none → Q (.ref l) (upd H l (.lst ys))) := by subst h; exact yR
theorem z3L (h : X.K = K) : MtM X "list.index" (z8p K) := by subst h; exact jY
theorem z5m {tg l : Expr} {tl : TE} (h : X.K = K) (hl : PE X l tl) : PI X tg l (z9t K tl) := by subst h; exact zX hl
theorem z8w {o e : Expr} {es : List Expr} {to : TE} {t : TA} {name : Str} {apos cpos : Pos} {T id : String} {r : V → List V → Hp → VK → Prop} (h : X.K = K) (pa : PlainAttrs T) (slot : Slot T name id) (hty : typeOf (.builtin id) = pure (.type "method_descriptor")) (hm : MtR X id r) (ho : PE X o to) (ha : PA X (e :: es) t)
    (hbase : attributeBase o name X.env (eval o X.env) = eval o X.env := by rfl)
    (hfew : ((backTo cpos (starEach (e :: es) X.env)).all (fun x => !x.1) && (backToKw cpos (keywordEach [] X.env)).all (fun x => x.1.isSome)
      && decide ((e :: es).length + ([] : List Keyword).length + (if ([] : List Keyword).isEmpty then 0 else 1) < 30)) = true := by rfl)
    (hline : (apos.endLine == cpos.line) = true := by rfl) (hs : starEach (e :: es) X.env = (false, eval e X.env) :: starEach es X.env := by rfl) (hplain : (backTo cpos (starEach es X.env)).any (·.1) = false := by rfl) :
    PE X (.Call (.Attribute o name apos) (e :: es) [] cpos) (tBM K T r to t) := by
  subst h;exact jF pa slot hty hm ho ha hbase hfew hline hs hplain
end
section
variable {X : Cx} {es : List Expr} {te : TE} {t : TA}
theorem zv {a b c} (ha : PE X (.Constant a b c) te) (hr : PA X es t) : PA X (.Constant a b c :: es) (z0O te t) := yW ha hr
theorem zb {a b} (ha : PE X (.Name a b) te) (hr : PA X es t) : PA X (.Name a b :: es) (z0O te t) := yW ha hr
theorem j8 {a b c} (ha : PE X (.Tuple a b c) te) (hr : PA X es t) : PA X (.Tuple a b c :: es) (z0O te t) := yW ha hr
theorem ya {a b c d} (ha : PE X (.BinOp a b c d) te) (hr : PA X es t) : PA X (.BinOp a b c d :: es) (z0O te t) := yW ha hr
theorem zk {a b c} (ha : PE X (.Subscript a b c) te) (hr : PA X es t) : PA X (.Subscript a b c :: es) (z0O te t) := yW ha hr
theorem zV {a b c d} (ha : PE X (.Call a b c d) te) (hr : PA X es t) : PA X (.Call a b c d :: es) (z0O te t) := yW ha hr
theorem yf {a b} (ha : PE X (.List a b) te) (hr : PA X es t) : PA X (.List a b :: es) (z0O te t) := yW ha hr
theorem z8W {a b c} (ha : PE X (.UnaryOp a b c) te) (hr : PA X es t) : PA X (.UnaryOp a b c :: es) (z0O te t) := yW ha hr
theorem z6N {a b c d} (ha : PE X (.Compare a b c d) te) (hr : PA X es t) : PA X (.Compare a b c d :: es) (z0O te t) := yW ha hr
theorem z1g {a b c d} (ha : PE X (.ListComp a b c d) te) (hr : PA X es t) : PA X (.ListComp a b c d :: es) (z0O te t) := yW ha hr
end
theorem z2z {X : Cx} {a b : Int} {k1 k2} {p1 p2 p3 : Pos} (hc : zal a b) : PE X (.BinOp (.Constant (.int a) k1 p1) .Pow (.Constant (.int b) k2 p2) p3) (tC (.int (a ^ b.toNat))) := by
  intro pins s σ H Q I h;exact (zp z9w za za) pins s σ H Q I ⟨a, b, rfl, rfl, hc, h⟩
end L2

namespace Cn
open PySem L2
inductive Side where
  | nm (s : Str) | nu (i : Int)
noncomputable def Side.v : Side → V
  | .nm s => .str s
  | .nu i => .int i
noncomputable def Side.ok (hs : List Str) : Side → Prop
  | .nm s => s ∈ hs
  | .nu _ => True
noncomputable def Side.cols : Side → List Str
  | .nm s => [s]
  | .nu _ => []
inductive Cond where
  | less (a b : Side) | same (a b : Side) | no (c : Cond) | an (c d : Cond) | or (c d : Cond)
namespace Cond
noncomputable def size : Cond → Nat
  | .less _ _ => 1
  | .same _ _ => 1
  | .no c => c.size + 1
  | .an c d => c.size + d.size + 1
  | .or c d => c.size + d.size + 1
noncomputable def leaf : Cond → Bool
  | .less _ _ => true
  | .same _ _ => true
  | _ => false
noncomputable def ok (hs : List Str) : Cond → Prop
  | .less a b => a.ok hs ∧ b.ok hs
  | .same a b => a.ok hs ∧ b.ok hs
  | .no c => c.ok hs
  | .an c d => c.ok hs ∧ d.ok hs
  | .or c d => c.ok hs ∧ d.ok hs
noncomputable def cols : Cond → List Str
  | .less a b => a.cols ++ b.cols
  | .same a b => a.cols ++ b.cols
  | .no c => c.cols
  | .an c d => c.cols ++ d.cols
  | .or c d => c.cols ++ d.cols
theorem size_pos (c : Cond) : 1 ≤ c.size := by
  cases c <;> simp only [size] <;> omega
theorem kQ (a : Side) : a.cols.length ≤ 1 := by
  cases a <;> simp [Side.cols]
theorem cols_le : ∀ c : Cond, c.cols.length ≤ 2 * c.size
  | .less a b => by
    have h1 := kQ a; have h2 := kQ b;simp only [cols, size, List.length_append]; omega
  | .same a b => by
    have h1 := kQ a; have h2 := kQ b;simp only [cols, size, List.length_append]; omega
  | .no c => by
    have := cols_le c;simp only [cols, size]; omega
  | .an c d => by
    have h1 := cols_le c; have h2 := cols_le d;simp only [cols, size, List.length_append]; omega
  | .or c d => by
    have h1 := cols_le c; have h2 := cols_le d;simp only [cols, size, List.length_append]; omega
end Cond
noncomputable def num (hs : List Str) (rs : List Int) : Side → Int
  | .nm s => rs.getD (hs.idxOf s) 0
  | .nu i => i
noncomputable def ev (hs : List Str) (rs : List Int) : Cond → Bool
  | .less a b => decide (num hs rs a < num hs rs b)
  | .same a b => decide (num hs rs a = num hs rs b)
  | .no c => !ev hs rs c
  | .an c d => ev hs rs c && ev hs rs d
  | .or c d => ev hs rs c || ev hs rs d
noncomputable def zN (H : Hp) : Cond → V → Prop
  | .less a b, v => ∃ p, v = .ref p ∧ H p = some (.tup [.str "less", a.v, b.v])
  | .same a b, v => ∃ p, v = .ref p ∧ H p = some (.tup [.str "same", a.v, b.v])
  | .no c, v => ∃ p x, v = .ref p ∧ H p = some (.tup [.str "not", x]) ∧ zN H c x
  | .an c d, v => ∃ p x y, v = .ref p ∧ H p = some (.tup [.str "and", x, y]) ∧ zN H c x ∧ zN H d y
  | .or c d, v => ∃ p x y, v = .ref p ∧ H p = some (.tup [.str "or", x, y]) ∧ zN H c x ∧ zN H d y
theorem zN.mono {H H' : Hp} (t : ∀ b xs, H b = some (.tup xs) → H' b = some (.tup xs)) : ∀ {c : Cond} {v : V}, zN H c v → zN H' c v
  | .less _ _, _, h => by
    obtain ⟨p, rfl, h⟩ := h;exact ⟨p, rfl, t _ _ h⟩
  | .same _ _, _, h => by
    obtain ⟨p, rfl, h⟩ := h;exact ⟨p, rfl, t _ _ h⟩
  | .no _, _, h => by
    obtain ⟨p, x, rfl, h, h1⟩ := h;exact ⟨p, x, rfl, t _ _ h, h1.mono t⟩
  | .an _ _, _, h => by
    obtain ⟨p, x, y, rfl, h, h1, h2⟩ := h;exact ⟨p, x, y, rfl, t _ _ h, h1.mono t, h2.mono t⟩
  | .or _ _, _, h => by
    obtain ⟨p, x, y, rfl, h, h1, h2⟩ := h;exact ⟨p, x, y, rfl, t _ _ h, h1.mono t, h2.mono t⟩
theorem zN.same {H H' : Hp} {c : Cond} {v : V} (e : zF H H') (h : zN H c v) : zN H' c v := h.mono fun b xs q => e b _ q
theorem zN.ref {H : Hp} {c : Cond} {v : V} (h : zN H c v) : ∃ p xs, v = .ref p ∧ H p = some (.tup xs) := by
  cases c with
  | less a b => obtain ⟨p, rfl, h⟩ := h; exact ⟨p, _, rfl, h⟩
  | same a b => obtain ⟨p, rfl, h⟩ := h; exact ⟨p, _, rfl, h⟩
  | no c => obtain ⟨p, x, rfl, h, _⟩ := h; exact ⟨p, _, rfl, h⟩
  | an c d => obtain ⟨p, x, y, rfl, h, _⟩ := h; exact ⟨p, _, rfl, h⟩
  | or c d => obtain ⟨p, x, y, rfl, h, _⟩ := h; exact ⟨p, _, rfl, h⟩
theorem zN.head {H : Hp} {c : Cond} {v : V} (h : zN H c v) : ∃ (p : Addr) (x : Str) (xs : List V), v = .ref p ∧ H p = some (.tup (.str x :: xs)) ∧ inV (.str x) [.str "less", .str "same"] = c.leaf := by
  cases c with
  | less a b => obtain ⟨p, rfl, h⟩ := h; exact ⟨p, _, _, rfl, h, (by show inV _ _ = _; first | exact (by decide +kernel : inV (.str "less") [.str "less", .str "same"] = true) | exact (by decide +kernel : inV (.str "same") [.str "less", .str "same"] = true) | exact (by decide +kernel : inV (.str "not") [.str "less", .str "same"] = false) | exact (by decide +kernel : inV (.str "and") [.str "less", .str "same"] = false) | exact (by decide +kernel : inV (.str "or") [.str "less", .str "same"] = false))⟩
  | same a b => obtain ⟨p, rfl, h⟩ := h; exact ⟨p, _, _, rfl, h, (by show inV _ _ = _; first | exact (by decide +kernel : inV (.str "less") [.str "less", .str "same"] = true) | exact (by decide +kernel : inV (.str "same") [.str "less", .str "same"] = true) | exact (by decide +kernel : inV (.str "not") [.str "less", .str "same"] = false) | exact (by decide +kernel : inV (.str "and") [.str "less", .str "same"] = false) | exact (by decide +kernel : inV (.str "or") [.str "less", .str "same"] = false))⟩
  | no c => obtain ⟨p, x, rfl, h, _⟩ := h; exact ⟨p, _, _, rfl, h, (by show inV _ _ = _; first | exact (by decide +kernel : inV (.str "less") [.str "less", .str "same"] = true) | exact (by decide +kernel : inV (.str "same") [.str "less", .str "same"] = true) | exact (by decide +kernel : inV (.str "not") [.str "less", .str "same"] = false) | exact (by decide +kernel : inV (.str "and") [.str "less", .str "same"] = false) | exact (by decide +kernel : inV (.str "or") [.str "less", .str "same"] = false))⟩
  | an c d => obtain ⟨p, x, y, rfl, h, _⟩ := h; exact ⟨p, _, _, rfl, h, (by show inV _ _ = _; first | exact (by decide +kernel : inV (.str "less") [.str "less", .str "same"] = true) | exact (by decide +kernel : inV (.str "same") [.str "less", .str "same"] = true) | exact (by decide +kernel : inV (.str "not") [.str "less", .str "same"] = false) | exact (by decide +kernel : inV (.str "and") [.str "less", .str "same"] = false) | exact (by decide +kernel : inV (.str "or") [.str "less", .str "same"] = false))⟩
  | or c d => obtain ⟨p, x, y, rfl, h, _⟩ := h; exact ⟨p, _, _, rfl, h, (by show inV _ _ = _; first | exact (by decide +kernel : inV (.str "less") [.str "less", .str "same"] = true) | exact (by decide +kernel : inV (.str "same") [.str "less", .str "same"] = true) | exact (by decide +kernel : inV (.str "not") [.str "less", .str "same"] = false) | exact (by decide +kernel : inV (.str "and") [.str "less", .str "same"] = false) | exact (by decide +kernel : inV (.str "or") [.str "less", .str "same"] = false))⟩
theorem kB {H : Hp} {l : Addr} {o : HO} (hl : H l = none) : ∀ b xs, H b = some (.tup xs) → (upd H l o) b = some (.tup xs) := fun b xs h => by
  rw [zt (zr h hl)];exact h
noncomputable def apf (hs : List Str) (rs : List Int) : Cond → Bool → Bool
  | .no _, b => !b
  | .an _ d, b => b && ev hs rs d
  | .or _ d, b => b || ev hs rs d
  | _, b => b
noncomputable def wgt : Cond → Nat
  | .an _ d => d.size + 1
  | .or _ d => d.size + 1
  | _ => 1
theorem zN.down {H : Hp} {c : Cond} {p : Addr} {x : V} {xs : List V} (hs : List Str) (rs : List Int) (h : zN H c (.ref p)) (hp : H p = some (.tup (x :: xs))) (lf : c.leaf = false) (ok : c.ok hs) :
    ∃ (y : V) (r : List V) (d : Cond), xs = y :: r ∧ zN H d y ∧ d.ok hs ∧ d.size + wgt c = c.size ∧ apf hs rs c (ev hs rs d) = ev hs rs c := by
  cases c with
  | less a b => cases lf
  | same a b => cases lf
  | no c =>
    obtain ⟨p', y, e, h, h1⟩ := h;cases e;rw [hp] at h;cases h;exact ⟨_, _, c, rfl, h1, ok, rfl, rfl⟩
  | an c d =>
    obtain ⟨p', y, z, e, h, h1, h2⟩ := h;cases e;rw [hp] at h;cases h;exact ⟨_, _, c, rfl, h1, ok.1, by simp only [wgt, Cond.size]; omega, rfl⟩
  | or c d =>
    obtain ⟨p', y, z, e, h, h1, h2⟩ := h;cases e;rw [hp] at h;cases h;exact ⟨_, _, c, rfl, h1, ok.1, by simp only [wgt, Cond.size]; omega, rfl⟩
noncomputable def unw (hs : List Str) (rs : List Int) (fs : List (V × Cond)) (b : Bool) : Bool := fs.foldr (fun f b => apf hs rs f.2 b) b
noncomputable def wt (fs : List (V × Cond)) : Nat := (fs.map fun f => wgt f.2).sum
theorem z4R (hs : List Str) (rs : List Int) (fs : List (V × Cond)) (f : V × Cond) (b : Bool) : unw hs rs (fs ++ [f]) b = unw hs rs fs (apf hs rs f.2 b) := by simp [unw]
theorem z6l (fs : List (V × Cond)) (f : V × Cond) : wt (fs ++ [f]) = wt fs + wgt f.2 := by simp [wt]
theorem z7W : ∀ fs : List (V × Cond), fs.length ≤ wt fs
  | [] => Nat.le_refl _
  | f :: r => by
    have h1 := z7W r;have h2 : 1 ≤ wgt f.2 := by cases f.2 <;> simp only [wgt] <;> omega
    have h3 : wt (f :: r) = wgt f.2 + wt r := by simp [wt]
    rw [h3, List.length_cons];omega
end Cn

namespace Rw
open PySem L2
noncomputable abbrev refs (rs : List (Addr × List Int)) : List V := rs.map fun r => V.ref r.1
noncomputable def RowsAt (H : Hp) (p : Addr) (rs : List (Addr × List Int)) : Prop := H p = some (.lst (refs rs)) ∧ ∀ r ∈ rs, r.1 ≠ p ∧ H r.1 = some (.lst (r.2.map V.int))
theorem RowsAt.same {H H' : Hp} {p : Addr} {rs : List (Addr × List Int)} (h : RowsAt H p rs) (e : zF H H') : RowsAt H' p rs := ⟨e _ _ h.1, fun r m => ⟨(h.2 r m).1, e _ _ (h.2 r m).2⟩⟩
theorem RowsAt.kp {H H' : Hp} {l p : Addr} {rs : List (Addr × List Int)} (h : RowsAt H p rs) (e : Kp l H H') (np : p ≠ l) (nr : ∀ r ∈ rs, r.1 ≠ l) : RowsAt H' p rs := ⟨e _ _ np h.1, fun r m => ⟨(h.2 r m).1, e _ _ (nr r m) (h.2 r m).2⟩⟩
theorem yi {H : Hp} {p : Addr} (h : H p = some (.lst [])) : RowsAt H p [] := ⟨h, fun _ z => by cases z⟩
theorem RowsAt.push {H : Hp} {p q : Addr} {x : List Int} {rs : List (Addr × List Int)} (h : RowsAt H p rs) (nq : q ≠ p) (hq : H q = some (.lst (x.map V.int))) :
    RowsAt (upd H p (.lst ((refs rs) ++ [V.ref q]))) p (rs ++ [(q, x)]) := by
  refine ⟨by rw [zm]; simp [refs], fun r m => ?_⟩;rcases List.mem_append.mp m with m | m
  · exact ⟨(h.2 r m).1, by rw [zt (h.2 r m).1]; exact (h.2 r m).2⟩
  · rw [List.mem_singleton.mp m];exact ⟨nq, by rw [zt nq]; exact hq⟩
theorem RowsAt.len {H : Hp} {p : Addr} {rs : List (Addr × List Int)} : (refs rs).length = rs.length := List.length_map _
theorem jO {rs : List (Addr × List Int)} {i : Nat} (h : i < rs.length) : (refs rs)[i]? = some (V.ref rs[i].1) := by
  rw [List.getElem?_map, List.getElem?_eq_getElem h]
  rfl
theorem int_at {xs : List Int} {i : Nat} (h : i < xs.length) : (xs.map V.int)[i]? = some (.int (xs.getD i 0)) := by
  rw [List.getElem?_map, List.getElem?_eq_getElem h, List.getD_eq_getElem?_getD, List.getElem?_eq_getElem h]
  rfl
theorem z4w {rs : List (Addr × List Int)} {i : Nat} (h : i < rs.length) : atI (refs rs) (0 + (i : Int)) = some (V.ref rs[i].1) := by
  rw [Int.zero_add];exact zW (jO h)
end Rw

namespace L2
open PySem PySem.Spec PyProof.Rows
section
variable {X : Cx} {pins : List (Addr × Obj)} {σ : St} {H : Hp} {s : Shared} {a : Addr} {A : Around} {E : Value → Shared → Prop}
theorem z8a {kvs : List (Key × V)} {k : Key} {d : V} {u r : Value} {Q : Value → Shared → Prop} (I : Inv X pins σ H s) (e : H a = some (.dK kvs)) (hl : kvs.length < sizeLine) (ru : RelV (kV k) u) (rd : RelV d r)
    (h1 : ∀ v w' s', jL kvs k = some v → Inv X pins σ H s' → RelV v w' → Q w' s') (h2 : ∀ s', jL kvs k = none → Inv X pins σ (upd H a (.dK (putK kvs k d))) s' → Q r s') :
    wpAny (model X.prog X.w) A (call (.builtin "dict.setdefault") [.ref a, u, r]) Q E s := by
  obtain ⟨z, hd, vs, rel, dd⟩ := z7w I.hok e;have hz : vs.length ≤ sizeLine := by rw [← rel.length]; exact z
  refine call_meetsIn PySem.F.slot_dict_setdefault dd.typeIs PySem.F.entry_dict_setdefault (PySem.F.args_dict_setdefault_3 _ _ _) (kt_meets_setdefault (jh X.prog X.w) a (z5q ru) hd r) ⟨vs, dd, hz, fun v' hv' => ?_, fun hn h' dd' hs => ?_⟩
  · have q := rel.val k;rw [hv'] at q;cases l : jL kvs k with
    | none => rw [l] at q; exact q.elim
    | some v => rw [l] at q; exact h1 v v' _ l (I.tok _) q
  · have q := rel.val k;rw [hn] at q;have l : jL kvs k = none := by
      cases l : jL kvs k with
      | none => rfl
      | some v => rw [l] at q; exact q.elim
    refine h2 _ l ?_;have hl' : (putK kvs k d).length ≤ sizeLine := by have := z0a kvs k d; omega
    have he : ∃ q, h'.get? a = some q := let ⟨q, _, _, hq, _⟩ := dd'; ⟨q, hq⟩
    exact z4F I (by rw [e]; exact True.intro) hs he (z7S hl' hd (rel.put k rd) dd')
end
noncomputable def zap (td ty tx : TE) : TE := fun σ H Q => td σ H fun x H1 => ∃ a, x = .ref a ∧ IsD H1 a ∧ ty σ H1 fun y H2 => tx σ H2 fun z H3 => ∃ kvs k, H3 a = some (.dK kvs) ∧ y = kV k ∧ kvs.length < sizeLine ∧
  (∀ v, jL kvs k = some v → Q v H3) ∧ (jL kvs k = none → Q z (upd H3 a (.dK (putK kvs k z))))
section
variable {X : Cx} {o e f : Expr} {td ty tx : TE} {apos cpos : Pos}
theorem z5J (ho : PE X o td) (he : PE X e ty) (hf : PE X f tx) (m : M2 X o "setdefault" apos e f cpos) : PE X (.Call (.Attribute o "setdefault" apos) [e, f] [] cpos) (zap td ty tx) := by
  intro pins s σ H Q I h;refine wpAny_Call_method m.base m.few m.line PySem.F.plainAttrs_dict PySem.F.slot_dict_setdefault PySem.F.type_dict_setdefault (thn (ho pins s σ H _ I h) fun u s1 ⟨x, H1, I1, rx, a, ex, d, q1⟩ => ?_);subst ex;obtain rfl : u = Value.ref a := rx;obtain ⟨t1, t2, _⟩ := z87 I1 d;refine ⟨t1, t2, ?_⟩;rw [m.trees];refine Calls.callWith_builtin rfl (Calls.evalArgs_plain (Calls.spliced_cons (thn (he pins s1 σ H1 _ I1 q1) fun iv s2 ⟨y, H2, I2, ry, q2⟩ =>
    Calls.spliced_cons (thn (hf pins s2 σ H2 _ I2 q2) fun fv s3 ⟨z, H3, I3, rz, kvs, k, ea, ey, hl, q3, q4⟩ => Calls.spliced_nil ?_))))
  subst ey;exact z8a I3 ea hl ry rz (fun v w' s4 l I4 rw' => ⟨v, H3, I4, rw', q3 v l⟩) fun s4 l I4 => ⟨z, _, I4, rz, q4 l⟩
end
noncomputable def Itd (d : Addr) (o : Obj) (kvs : List (Key × V)) : It :=
  ⟨fun i H => H d = some (.frz o (.dK kvs)) ∧ i < kvs.length, fun i H x H' => H' = H ∧ ∃ p, kvs[i]? = some p ∧ x = kV p.1, fun i H => H d = some (.frz o (.dK kvs)) ∧ kvs.length ≤ i⟩
theorem z7y {P : Program} {w : World} {k : Key} {u : Value} (h : (jh P w).is k u = true) : RelV (kV k) u := by
  rcases jj (show z2k k u = true from h) with ⟨i, t, rfl, rfl⟩ | ⟨y, t, rfl, rfl⟩
  · exact ⟨t, rfl⟩
  · exact ⟨t, rfl⟩
theorem z7B {P : Program} {w : World} {H : Hp} {h : Heap} {d : Addr} {o : Obj} {kvs : List (Key × V)} {es : Array DictEntry} {ep : Nat} (ok : HOk P w H h) (e : H d = some (.frz o (.dK kvs))) (ho : o.data = .dict es ep) :
    ∃ vs, KV kvs vs ∧ h.DictAt (jh P w) d vs ep := by
  obtain ⟨hg, z, hS, vs, rel, dd⟩ := ok d _ e;obtain ⟨ep', hat⟩ := dd.dictAt;obtain ⟨o', es', ho', hx, hdat, r⟩ := id hat
  rw [hg] at ho';cases ho';rw [ho] at hdat
  cases hdat
  exact ⟨vs, rel, hat⟩
theorem z76 {P : Program} {w : World} {K : PySem.W.Frag} {tg : Expr} (d it : Addr) {o : Obj} {kvs : List (Key × V)} {es : Array DictEntry} {ep : Nat} (ho : o.data = .dict es ep) :
    Turn P w K tg (Itd d o kvs) [it] it (fun i h => h.IsKeyIter it d i kvs.length ep) where
  mem := by simp
  obj := fun i h st b hb => by
    have e : b = it := by simpa using hb
    subst e;obtain ⟨o, e, c, d⟩ := st;exact ⟨o, e, fun v z => by rw [d] at z; cases z⟩
  keep := fun i h h' st k => st.at fun o e => k it (by simp) o e
  item := by
    intro X hP hw hK hc i pins s σ H E I hf st hg;subst hP hw hK;obtain ⟨hH, hi⟩ := hg;obtain ⟨vs, rel, hat⟩ := z7B I.hok hH ho;have hl := rel.length;obtain ⟨f0, f1, f2, f3, f4, f5⟩ := hf it (by simp);obtain ⟨p, hp⟩ : ∃ p, vs[i]? = some p := ⟨vs[i]'(by omega), List.getElem?_eq_getElem (by omega)⟩
    obtain ⟨q, hq⟩ : ∃ q, kvs[i]? = some q := ⟨kvs[i], List.getElem?_eq_getElem hi⟩
    have ek : q.1 = p.1 := by
      have e1 : (kvs.map (·.1))[i]? = some q.1 := by rw [List.getElem?_map, hq]; rfl
      rw [KV.keys rel, List.getElem?_map, hp] at e1;exact (Option.some.inj e1).symm
    rw [hl] at st;refine wpAny_pyNext_dict_item st hat (k := p.1) (v := p.2) hp fun key h' hkey st' sb => ?_
    have I1 : Inv X pins σ H { s with heap := h' } := I.turned (t' := s.toks) (fun b o hb e => (sb.2 b hb).trans e) f0 f1 f3 f4 f5;obtain ⟨o', e, c, dt⟩ := id st';refine ⟨key, rfl, z6g (s := { s with heap := h' }) e c dt (by decide) ⟨kV q.1, H, I1, ?_, ⟨rfl, q, hq, rfl⟩, by rw [hl]; exact st', fun b hb => (hf b hb).1⟩⟩;rw [ek];exact z7y hkey
  done := by
    intro X hP hw hK hc i pins s σ H E I hf st hg;subst hP hw hK;obtain ⟨hH, hi⟩ := hg;obtain ⟨vs, rel, hat⟩ := z7B I.hok hH ho;have hl := rel.length;obtain ⟨f0, f1, f2, f3, f4, f5⟩ := hf it (by simp);rw [hl] at st;exact wpAny_pyNext_dict_end (I.ok.hd hc) st hat (List.getElem?_eq_none (by omega)) fun h' eb => ⟨rfl, I.turned (t' := s.toks) (fun b o hb e => eb b o hb e) f0 f1 f3 f4 f5⟩
  self := fun _ _ _ _ _ st h => wpAny_pyIter_keyiter st h
section
variable {X : Cx} {tg : Expr}
noncomputable def zaI (tl : TE) : TI := fun σ H R => tl σ H fun x H1 => ∃ d kvs, x = .ref d ∧ H1 d = some (.dK kvs) ∧ ∀ o, R (Itd d o kvs) (upd H1 d (.frz o (.dK kvs)))
theorem z9g {l : Expr} {tl : TE} (hl : PE X l tl) : PI X tg l (zaI tl) := by
  intro pins s σ H R I h;refine thn (hl pins s σ H _ I h) fun v s1 ⟨x, H1, I1, r1, q1⟩ => ?_
  obtain ⟨d, kvs, e, hq, q⟩ := q1;subst e;cases r1;obtain ⟨z, hd, vs, rel, dd⟩ := z7w I1.hok hq;obtain ⟨ep, hat⟩ := dd.dictAt;obtain ⟨o, es, ho, hx, hdat, _⟩ := id hat
  refine wpAny_pyIter_dict hd hat ?_;have I2 : Inv X pins σ (upd H1 d (.frz o (.dK kvs))) { s1 with heap := s1.heap, toks := s1.toks } := I1.write (x := d) (e := d) (by rw [hq]; exact True.intro) (.inl rfl) (fun b u _ q => q) ⟨o, ho⟩ ⟨ho, z, hd, vs, rel, dd⟩;rw [← rel.length];refine ⟨s1.heap.objs.size, [s1.heap.objs.size], _, _, upd H1 d (.frz o (.dK kvs)), rfl, I2.kept (t' := s1.toks) fun b o e => Heap.get?_push_of_some _ e, z76 d _ hdat, ⟨_, Heap.get?_push_size _ rfl, rfl, rfl⟩, fun b hb => ?_, q o⟩;have e : b = s1.heap.objs.size := by simpa using hb
  subst e;exact I2.fpOk (Nat.le_refl _) (I2.hok.fresh (Nat.le_refl _))
end
theorem z5W {d : Addr} {o : Obj} {kvs : List (Key × V)} {σ : St} {ix : List Nat} {te : TE} {Q : List V → Hp → Prop} {H : Hp} (Pv : Nat → List V → Hp → Prop) (h0 : Pv 0 [] H)
    (hl : ∀ i ys H, i ≤ kvs.length → Pv i ys H → H d = some (.frz o (.dK kvs)) ∧ ys.length < sizeLine)
    (hs : ∀ (i : Nat) p ys H, kvs[i]? = some p → Pv i ys H → te (sub σ ix (some (kV p.1))) H fun y H3 => Pv (i + 1) (ys ++ [y]) H3) (hd : ∀ ys H, Pv kvs.length ys H → Q ys H) : z0g (Itd d o kvs) σ ix z59 te Q H := by
  refine ⟨fun i m ys H => m = kvs.length - i ∧ i ≤ kvs.length ∧ Pv i ys H, ⟨_, rfl, Nat.zero_le _, h0⟩, ?_⟩;rintro i m ys H ⟨rfl, hi, p⟩;obtain ⟨q, hz⟩ := hl i ys H hi p;refine ⟨hz, ?_⟩;by_cases hlt : i < kvs.length
  · refine .inr ⟨⟨q, hlt⟩, fun y H3 => Pv (i + 1) (ys ++ [y]) H3, fun H2 => False, fun y H3 z => ⟨kvs.length - (i + 1), by omega, rfl, hlt, z⟩, fun H2 z => z.elim, fun x H' y => ?_⟩;obtain ⟨e, y, hy, ey⟩ := y;subst e ey;exact z5V (B := False) (hs i y ys _ hy p)
  · have e : i = kvs.length := by omega
    subst e;exact .inl ⟨⟨q, Nat.le_refl _⟩, hd ys H p⟩
end L2
namespace L2
open PySem PySem.Spec PyProof.Rows
end L2

namespace L2
open PySem PySem.Spec PyProof.Rows PySem.W
noncomputable def kOk (n : Nat) (k : Nat → Int) {α : Type} (Q : α → Prop) : KasT α → Prop
  | .ret a => Q a
  | .ask i j f => i < n ∧ j < n ∧ kOk n k Q (f (decide (k i < k j)))
theorem z0m {n : Nat} {k : Nat → Int} {α β : Type} {Q : β → Prop} {f : α → KasT β} : ∀ {t : KasT α}, kOk n k (fun a => kOk n k Q (f a)) t → kOk n k Q (t.bind f)
  | .ret _, h => h
  | .ask _ _ _, h => ⟨h.1, h.2.1, z0m h.2.2⟩
theorem jM {n : Nat} {k : Nat → Int} {α : Type} {Q Q' : α → Prop} (hq : ∀ a, Q a → Q' a) : ∀ {t : KasT α}, kOk n k Q t → kOk n k Q' t
  | .ret _, h => hq _ h
  | .ask _ _ _, h => ⟨h.1, h.2.1, jM hq h.2.2⟩
theorem z5O {n : Nat} {k : Nat → Int} {cmp : Nat → Nat → (Bool → Shared → Prop) → Shared → Prop} {s : Shared} (hc : ∀ i j C, i < n → j < n → C (decide (k i < k j)) s → cmp i j C s) {α : Type} {Q : α → Shared → Prop} :
    ∀ {t : KasT α}, kOk n k (fun a => Q a s) t → t.kasWp cmp Q s
  | .ret _, h => h
  | .ask _ _ _, h => hc _ _ _ h.1 h.2.1 (z5O hc h.2.2)
theorem z24 {n : Nat} {k : Nat → Int} {α : Type} {Q : α → Prop} {i j : Nat} {a b : KasT α} (hi : i < n) (hj : j < n) (h1 : k i < k j → kOk n k Q a) (h2 : ¬ k i < k j → kOk n k Q b) :
    kOk n k Q (.ask i j fun c => if c = true then a else b) := by
  refine ⟨hi, hj, ?_⟩;by_cases c : k i < k j
  · show kOk n k Q (if decide (k i < k j) = true then a else b)
    rw [if_pos (by simpa using c)]; exact h1 c
  · show kOk n k Q (if decide (k i < k j) = true then a else b)
    rw [if_neg (by simpa using c)]; exact h2 c
noncomputable def Rk (k : Nat → Int) (x y : Nat) : Prop := k x < k y ∨ (k x = k y ∧ x < y)
theorem Rk.trans {k : Nat → Int} {x y z : Nat} (h : Rk k x y) (h' : Rk k y z) : Rk k x z := by unfold Rk at *; omega
noncomputable def at' (p : Array Nat) (i : Nat) : Nat := (p[i]?).getD 0
theorem getD_at (p : Array Nat) (i : Nat) : p.getD i 0 = at' p i := by
  unfold at'; simp [Array.getD_eq_getD_getElem?]
structure Ar (n m : Nat) (p : Array Nat) : Prop where
  sz : p.size = n
  mn : m ≤ n
  id : ∀ i, m ≤ i → i < n → at' p i = i
  lo : ∀ i, i < m → at' p i < m
  pm : p.Perm (List.range n).toArray
theorem Ar.lt {n m : Nat} {p : Array Nat} (h : Ar n m p) {i : Nat} (hi : i < n) : at' p i < n := by
  by_cases e : i < m
  · exact Nat.lt_of_lt_of_le (h.lo i e) h.mn
  · rw [h.id i (by omega) hi]; exact hi
theorem Ar.up {n m m' : Nat} {p : Array Nat} (h : Ar n m p) (h1 : m ≤ m') (h2 : m' ≤ n) : Ar n m' p := by
  refine ⟨h.sz, h2, fun i a b => h.id i (by omega) b, fun i a => ?_, h.pm⟩;by_cases e : i < m
  · have := h.lo i e; omega
  · rw [h.id i (by omega) (by omega)]; exact a
noncomputable def Up (k : Nat → Int) (m : Nat) (p : Array Nat) : Prop := ∀ i j, i < j → j < m → Rk k (at' p i) (at' p j)
noncomputable def Dn (k : Nat → Int) (m : Nat) (p : Array Nat) : Prop := ∀ i j, i < j → j < m → Rk k (at' p j) (at' p i)
theorem kM {p : Array Nat} {i j : Nat} (hj : j ≤ p.size) (x : Nat) : at' (kas_rev p i j) x = if i ≤ x ∧ x < j then at' p (i + j - 1 - x) else at' p x := by
  unfold at' kas_rev; rw [getElem?_mirror_all hj]; split <;> rfl
theorem Ar.rev {n m : Nat} {p : Array Nat} (h : Ar n m p) {i j : Nat} (hj : j ≤ m) : Ar n m (kas_rev p i j) := by
  have hs : j ≤ p.size := by rw [h.sz]; exact Nat.le_trans hj h.mn
  refine ⟨by show (mirror _ _ _ _).size = n; rw [mirror_size, h.sz], h.mn, fun x a b => ?_, fun x a => ?_, (mirror_perm _ _ _ _).trans h.pm⟩
  · rw [kM hs, if_neg (by omega), h.id x a b]
  · rw [kM hs];split
    · exact h.lo _ (by omega)
    · exact h.lo _ a
theorem Dn.rev {k : Nat → Int} {n m : Nat} {p : Array Nat} (A : Ar n m p) (h : Dn k m p) : Up k m (kas_rev p 0 m) := by
  have hs : m ≤ p.size := by rw [A.sz]; exact A.mn
  intro i j hij hj;rw [kM hs, kM hs, if_pos (by omega), if_pos (by omega)];exact h _ _ (by omega) (by omega)
theorem z7H {n : Nat} {k : Nat → Int} {p : Array Nat} : ∀ (f m : Nat), 1 ≤ m → m + f = n → Ar n m p → Up k m p →
    kOk n k (fun m' => m ≤ m' ∧ m' ≤ n ∧ Ar n m' p ∧ Up k m' p) (kas_asc p f m)
  | 0, m, _, hf, A, U => ⟨Nat.le_refl _, by omega, A, U⟩
  | f + 1, m, h1, hf, A, U => by
    show kOk n k _ (KasT.ask _ _ _)
    rw [getD_at, getD_at];have em := A.id m (Nat.le_refl _) (by omega);have lm := A.lo (m - 1) (by omega);refine z24 (by rw [em]; omega) (by omega) (fun c => ?_) fun c => ?_
    · skip
      exact ⟨Nat.le_refl _, by omega, A, U⟩
    · skip
      refine jM (fun a h => ⟨by omega, h.2⟩) (z7H f (m + 1) (by omega) (by omega) (A.up (by omega) (by omega)) ?_);have last : Rk k (at' p (m - 1)) (at' p m) := by unfold Rk; omega
      intro i j hij hj;by_cases e : j < m
      · exact U i j hij e
      · obtain rfl : j = m := by omega
        by_cases e2 : i = j - 1
        · rw [e2]; exact last
        · exact (U i (j - 1) (by omega) (by omega)).trans last
structure Fal (k : Nat → Int) (m q : Nat) (p : Array Nat) : Prop where
  qm : q + 1 ≤ m
  fr : ∀ i j, i < j → j < m - (q + 1) → Rk k (at' p j) (at' p i)
  st : ∀ i j, i < m - (q + 1) → m - (q + 1) ≤ j → j < m → k (at' p j) < k (at' p i)
  eq : ∀ i, m - (q + 1) ≤ i → i < m → k (at' p i) = k (at' p (m - 1))
  or : ∀ i j, i < j → j < m → m - (q + 1) ≤ i → at' p i < at' p j
theorem Fal.dn {k : Nat → Int} {n m q : Nat} {p : Array Nat} (A : Ar n m p) (h : Fal k m q p) : Dn k m (kas_rev p (m - (q + 1)) m) ∧ ∀ x, x < m → k (at' p (m - 1)) ≤ k (at' (kas_rev p (m - (q + 1)) m) x) := by
  have hs : m ≤ p.size := by rw [A.sz]; exact A.mn
  have hq := h.qm;have lowx : ∀ x, x < m → k (at' p (m - 1)) ≤ k (at' p x) := fun x hx => by
    by_cases e : x < m - (q + 1)
    · have := h.st x (m - 1) e (by omega) (by omega); omega
    · rw [h.eq x (by omega) hx]; exact Int.le_refl _
  refine ⟨fun i j hij hj => ?_, fun x hx => ?_⟩
  · rw [kM hs, kM hs];by_cases ei : m - (q + 1) ≤ i
    · rw [if_pos (by omega), if_pos (by omega)];have a := h.eq (m - (q + 1) + m - 1 - i) (by omega) (by omega);have b := h.eq (m - (q + 1) + m - 1 - j) (by omega) (by omega);have c := h.or (m - (q + 1) + m - 1 - j) (m - (q + 1) + m - 1 - i) (by omega) (by omega) (by omega);unfold Rk; omega
    · rw [if_neg (show ¬ (m - (q + 1) ≤ i ∧ i < m) by omega)];split
      · exact Or.inl (h.st _ _ (by omega) (by omega) (by omega))
      · exact h.fr _ _ (by omega) (by omega)
  · rw [kM hs];split
    · exact lowx _ (by omega)
    · exact lowx _ hx
theorem Fal.dn0 {k : Nat → Int} {m : Nat} {p : Array Nat} (h : Fal k m 0 p) : Dn k m p ∧ ∀ x, x < m → k (at' p (m - 1)) ≤ k (at' p x) := by
  have hq := h.qm;refine ⟨fun i j hij hj => ?_, fun x hx => ?_⟩
  · by_cases e : j < m - 1
    · exact h.fr i j hij e
    · exact Or.inl (h.st i j (by omega) (by omega) hj)
  · by_cases e : x < m - 1
    · have := h.st x (m - 1) e (by omega) (by omega); omega
    · obtain rfl : x = m - 1 := by omega
      exact Int.le_refl _
theorem Fal.step {k : Nat → Int} {n m : Nat} {p : Array Nat} (hm : m < n) (h : Dn k m p) {y : Int} (hy : ∀ x, x < m → y ≤ k (at' p x)) (hl : k (at' p m) < y) : Fal k (m + 1) 0 p := by
  refine ⟨by omega, fun i j hij hj => h i j hij (by omega), fun i j hi hj hm' => ?_, fun i a b => ?_, fun i j a b c => by omega⟩
  · obtain rfl : j = m := by omega
    have := hy i (by omega);omega
  · obtain rfl : i = m := by omega
    simp
theorem z2F {n : Nat} {k : Nat → Int} : ∀ (f : Nat) (p : Array Nat) (m q : Nat), m + f = n → Ar n m p → Fal k m q p →
    kOk n k (fun r => m ≤ r.2.1 ∧ r.2.1 ≤ n ∧ Ar n r.2.1 r.1 ∧ Fal k r.2.1 r.2.2 r.1) (kas_desc f p m q)
  | 0, p, m, q, hf, A, F => ⟨Nat.le_refl _, by show m ≤ n; omega, A, F⟩
  | f + 1, p, m, q, hf, A, F => by
    show kOk n k _ (KasT.ask _ _ _)
    rw [getD_at, getD_at];have hq := F.qm;have em := A.id m (Nat.le_refl _) (by omega);have lm := A.lo (m - 1) (by omega);refine z24 (by rw [em]; omega) (by omega) (fun c => ?_) fun c => ?_
    · skip
      have hs : m ≤ p.size := by rw [A.sz]; omega
      by_cases q0 : q > 0
      · rw [if_pos q0];have A' : Ar n m (kas_rev p (m - (q + 1)) m) := A.rev (Nat.le_refl _);have e' : at' (kas_rev p (m - (q + 1)) m) m = at' p m := by rw [kM hs, if_neg (by omega)]
        exact jM (fun a h => ⟨by omega, h.2⟩) (z2F f _ (m + 1) 0 (by omega) (A'.up (by omega) (by omega)) (Fal.step (n := n) (by omega) (F.dn A).1 (F.dn A).2 (by rw [e']; exact c)))
      · rw [if_neg q0];obtain rfl : q = 0 := by omega
        exact jM (fun a h => ⟨by omega, h.2⟩) (z2F f _ (m + 1) 0 (by omega) (A.up (by omega) (by omega)) (Fal.step (n := n) (by omega) F.dn0.1 F.dn0.2 c))
    · refine z24 (by omega) (by rw [em]; omega) (fun d => ?_) fun d => ?_
      · exact ⟨Nat.le_refl _, by show m ≤ n; omega, A, F⟩
      · have ee : k (at' p m) = k (at' p (m - 1)) := by omega
        refine jM (fun a h => ⟨by omega, h.2⟩) (z2F f _ (m + 1) (q + 1) (by omega) (A.up (by omega) (by omega)) ⟨by omega, fun i j hij hj => ?_, fun i j hi hj hm => ?_, fun i a b => ?_, fun i j hij hj hi => ?_⟩)
        · exact F.fr i j hij (by omega)
        · by_cases e : j < m
          · exact F.st i j (by omega) (by omega) e
          · obtain rfl : j = m := by omega
            rw [ee]; exact F.st i (j - 1) (by omega) (by omega) (by omega)
        · rw [Nat.add_sub_cancel];by_cases e : i < m
          · rw [F.eq i (by omega) e, ee]
          · obtain rfl : i = m := by omega
            rfl
        · by_cases e : j < m
          · exact F.or i j hij e (by omega)
          · obtain rfl : j = m := by omega
            rw [em]; exact A.lo i (by omega)
theorem z4N {n m : Nat} {k : Nat → Int} {p : Array Nat} (h1 : 1 ≤ m) (A : Ar n m p) (D : Dn k m p) :
    kOk n k (fun r => 1 ≤ r.1 ∧ r.1 ≤ n ∧ Ar n r.1 r.2 ∧ Up k r.1 r.2) (kas_tail3 m n p) := by
  refine z0m (jM (fun a h => ?_) (z7H (n - m) m h1 (by have := A.mn; omega) (A.rev (Nat.le_refl _)) (D.rev A)));exact ⟨by show 1 ≤ a; omega, h.2.1, h.2.2.1, h.2.2.2⟩
theorem z2d {n m : Nat} {k : Nat → Int} {p : Array Nat} (h1 : m + 1 ≤ n) (A : Ar n (m + 1) p) (F : Fal k (m + 1) 0 p) :
    kOk n k (fun r => 1 ≤ r.1 ∧ r.1 ≤ n ∧ Ar n r.1 r.2 ∧ Up k r.1 r.2) (kas_descPart m n p) := by
  refine z0m (jM (fun a h => ?_) (z2F (n - (m + 1)) p (m + 1) 0 (by omega) A F));obtain ⟨b1, b2, b3, b4⟩ := h;by_cases q0 : a.2.2 > 0
  · rw [if_pos q0];exact z4N (by omega) (b3.rev (Nat.le_refl _)) (b4.dn b3).1
  · rw [if_neg q0];obtain ⟨p', m', q'⟩ := a;obtain rfl : q' = 0 := by simpa using q0
    exact z4N (by have : m + 1 ≤ m' := b1; show 1 ≤ m'; omega) b3 b4.dn0.1
theorem z6I {n : Nat} {k : Nat → Int} {p : Array Nat} : ∀ (f m : Nat), 1 ≤ m → m + f = n → Ar n m p → Up k m p →
    kOk n k (fun m' => m ≤ m' ∧ m' ≤ n ∧ Ar n m' p ∧ Up k m' p ∧ (m' < n → k (at' p m') < k (at' p (m' - 1)))) (kas_asc p f m)
  | 0, m, _, hf, A, U => ⟨Nat.le_refl _, by omega, A, U, fun h => by omega⟩
  | f + 1, m, h1, hf, A, U => by
    show kOk n k _ (KasT.ask _ _ _)
    rw [getD_at, getD_at];have em := A.id m (Nat.le_refl _) (by omega);have lm := A.lo (m - 1) (by omega);refine z24 (by rw [em]; omega) (by omega) (fun c => ?_) fun c => ?_
    · skip
      exact ⟨Nat.le_refl _, by omega, A, U, fun _ => c⟩
    · skip
      refine jM (fun a h => ⟨by omega, h.2⟩) (z6I f (m + 1) (by omega) (by omega) (A.up (by omega) (by omega)) ?_);have last : Rk k (at' p (m - 1)) (at' p m) := by unfold Rk; omega
      intro i j hij hj;by_cases e : j < m
      · exact U i j hij e
      · obtain rfl : j = m := by omega
        by_cases e2 : i = j - 1
        · rw [e2]; exact last
        · exact (U i (j - 1) (by omega) (by omega)).trans last
theorem z8D {n : Nat} {k : Nat → Int} {p : Array Nat} (hn : 1 ≤ n) (A : Ar n 1 p) : kOk n k (fun r => 1 ≤ r.1 ∧ r.1 ≤ n ∧ Ar n r.1 r.2 ∧ Up k r.1 r.2) (kas_count n p) := by
  refine z0m (jM (fun m h => ?_) (z6I (n - 1) 1 (Nat.le_refl _) (by omega) A (fun i j a b => by omega)));obtain ⟨b1, b2, b3, b4, b5⟩ := h;by_cases e : m = n
  · rw [if_pos (by simpa using e)];exact ⟨b1, b2, b3, b4⟩
  rw [if_neg (by simpa using e)];have hs : m ≤ p.size := by rw [A.sz]; exact b2
  have b5' := b5 (by omega);by_cases e1 : m > 1
  · rw [if_pos e1]
    show kOk n k _ (KasT.ask _ _ _)
    rw [getD_at, getD_at];refine z24 (b3.lt (by omega)) (b3.lt (by omega)) (fun c => ?_) fun c => ?_
    · exact ⟨b1, b2, b3, b4⟩
    · have A' : Ar n m (kas_rev p 0 m) := b3.rev (Nat.le_refl _);have eqs : ∀ i, i < m → k (at' p i) = k (at' p (m - 1)) := fun i hi => by
        have h0 : k (at' p 0) ≤ k (at' p i) := by
          by_cases e : i = 0
          · rw [e]; exact Int.le_refl _
          · have := b4 0 i (by omega) hi; unfold Rk at this; omega
        have h1 : k (at' p i) ≤ k (at' p (m - 1)) := by
          by_cases e : i = m - 1
          · rw [← e]; exact Int.le_refl _
          · have := b4 i (m - 1) (by omega) (by omega); unfold Rk at this; omega
        omega
      have D : Dn k m (kas_rev p 0 m) := fun i j hij hj => by
        rw [kM hs, kM hs, if_pos (by omega), if_pos (by omega)];exact b4 _ _ (by omega) (by omega)
      refine z2d (by omega) (A'.up (by omega) (by omega)) (Fal.step (n := n) (y := k (at' p (m - 1))) (by omega) D (fun x hx => ?_) ?_)
      · rw [kM hs, if_pos (by omega)];have := eqs (0 + m - 1 - x) (by omega);omega
      · rw [kM hs, if_neg (by omega)]; exact b5'
  · rw [if_neg e1];obtain rfl : m = 1 := by omega
    refine z2d (by omega) (b3.up (by omega) (by omega)) (Fal.step (n := n) (y := k (at' p 0)) (by omega) (fun i j a b => by omega) (fun x hx => ?_) b5');obtain rfl : x = 0 := by omega
    exact Int.le_refl _
theorem z3f {n m : Nat} {k : Nat → Int} {p : Array Nat} (hm : m < n) (A : Ar n m p) (U : Up k m p) : ∀ (f l r : Nat), l ≤ r → r ≤ m → r - l ≤ f →
    (∀ i, i < l → k (at' p i) ≤ k (at' p m)) → (∀ i, r ≤ i → i < m → k (at' p m) < k (at' p i)) →
    kOk n k (fun l' => l' ≤ m ∧ (∀ i, i < l' → k (at' p i) ≤ k (at' p m)) ∧ ∀ i, l' ≤ i → i < m → k (at' p m) < k (at' p i)) (kas_place p m f l r)
  | 0, l, r, h1, h2, h3, a, b => ⟨by omega, a, fun i x y => b i (by omega) y⟩
  | f + 1, l, r, h1, h2, h3, a, b => by
    unfold kas_place;by_cases e : l ≥ r
    · rw [if_pos e];exact ⟨by omega, a, fun i x y => b i (by omega) y⟩
    rw [if_neg e, getD_at, getD_at];refine z24 (A.lt hm) (A.lt (by omega)) (fun c => ?_) fun c => ?_
    · refine z3f hm A U f l ((l + r) / 2) (by omega) (by omega) (by omega) a fun i x y => ?_
      by_cases e2 : i = (l + r) / 2
      · rw [e2]; exact c
      · have := U ((l + r) / 2) i (by omega) y; unfold Rk at this; omega
    · refine z3f hm A U f ((l + r) / 2 + 1) r (by omega) (by omega) (by omega) (fun i x => ?_) b;by_cases e2 : i = (l + r) / 2
      · rw [e2]; omega
      · have := U i ((l + r) / 2) (by omega) (by omega); unfold Rk at this; omega
theorem z7h {p : Array Nat} {m d : Nat} (hm : m < p.size) (hd : d ≤ m) (x : Nat) : at' (bubble p m d) x = if x = m - d then at' p m else if m - d < x ∧ x ≤ m then at' p (x - 1) else at' p x := by
  unfold at'; rw [getElem?_bubble hm d hd]; split
  · rfl
  · split <;> rfl
theorem z8u {n : Nat} {k : Nat → Int} : ∀ (f : Nat) (p : Array Nat) (m : Nat), m + f = n → Ar n m p → Up k m p →
    kOk n k (fun p' => Ar n n p' ∧ Up k n p') (kas_bin f p m)
  | 0, p, m, h, A, U => by
    obtain rfl : m = n := by omega
    exact ⟨A, U⟩
  | f + 1, p, m, h, A, U => by
    have hs : m < p.size := by rw [A.sz]; omega
    have em := A.id m (Nat.le_refl _) (by omega);refine z0m (jM (fun l hl => ?_) (z3f (by omega) A U m 0 m (by omega) (Nat.le_refl _) (by omega) (fun i x => by omega) (fun i x y => by omega)));obtain ⟨c1, c2, c3⟩ := hl;have eb : ∀ x, at' (bubble p m (m - l)) x = if x = l then at' p m else if l < x ∧ x ≤ m then at' p (x - 1) else at' p x := fun x => by
      rw [z7h hs (by omega), show m - (m - l) = l by omega]
    refine z8u f _ (m + 1) (by omega) ⟨by rw [bubble_size, A.sz], by omega, fun i a b => ?_, fun i a => ?_, (bubble_perm _ _ _).trans A.pm⟩ fun i j hij hj => ?_
    · rw [eb, if_neg (by omega), if_neg (by omega)]; exact A.id i (by omega) b
    · rw [eb];split
      · omega
      · split
        · have := A.lo (i - 1) (by omega); omega
        · have := A.lo i (by omega); omega
    · rw [eb, eb];have hlow : ∀ x, x < m → at' p x < at' p m := fun x hx => by rw [em]; exact A.lo x hx
      by_cases e1 : i = l
      · rw [if_pos e1, if_neg (by omega), if_pos (by omega)];exact Or.inl (c3 (j - 1) (by omega) (by omega))
      · rw [if_neg e1];by_cases e2 : l < i ∧ i ≤ m
        · rw [if_pos e2, if_neg (by omega), if_pos (by omega)];exact U _ _ (by omega) (by omega)
        · rw [if_neg e2];by_cases e3 : j = l
          · rw [if_pos e3];have a := c2 i (by omega);have b := hlow i (by omega);unfold Rk; omega
          · rw [if_neg e3];by_cases e4 : l < j ∧ j ≤ m
            · rw [if_pos e4]; exact U _ _ (by omega) (by omega)
            · rw [if_neg e4]; exact U _ _ (by omega) (by omega)
theorem Ar.all {n : Nat} : Ar n 0 (List.toArray (List.range n)) := by
  refine ⟨by simp, Nat.zero_le _, fun i _ h => ?_, fun i h => by omega, Array.Perm.refl _⟩;unfold at';simp [h]
theorem z6u {n : Nat} (hn : 1 ≤ n) (k : Nat → Int) : kOk n k (fun p => p.toList.Perm (List.range n) ∧ p.toList.Pairwise (Rk k)) (kas_sort n) := by
  have fin : ∀ p : Array Nat, Ar n n p → Up k n p → p.toList.Perm (List.range n) ∧ p.toList.Pairwise (Rk k) := fun p A U => by
    refine ⟨by have := A.pm; rw [Array.perm_iff_toList_perm] at this; simpa using this, ?_⟩;rw [List.pairwise_iff_getElem];intro i j hi hj hij;have hj' : j < n := by rw [← A.sz]; simpa using hj
    have := U i j hij hj';unfold at' at this;have hi2 : i < p.size := by rw [A.sz]; omega
    have hj2 : j < p.size := by rw [A.sz]; omega
    simpa [hi2, hj2] using this
  refine z0m (jM (fun r h => ?_) (z8D hn (Ar.all.up (by omega) hn)));obtain ⟨b1, b2, b3, b4⟩ := h;by_cases e : r.1 < n
  · rw [if_pos e];have hm : max r.1 1 = r.1 := by omega
    rw [hm];exact jM (fun p h => fin p h.1 h.2) (z8u (n - r.1) r.2 r.1 (by omega) b3 b4)
  · rw [if_neg e];have e' : r.1 = n := by omega
    rw [e'] at b3 b4;exact fin r.2 b3 b4
end L2

namespace L2
open PySem PySem.Spec PyProof.Rows PySem.W
theorem z6a {ss : List Str} : ∀ {us : List Value}, zP (ss.map V.str) us → StrsAre us ss := by
  induction ss with
  | nil => intro us r; rw [List.map_nil] at r; cases r; exact .nil
  | cons n ns ih =>
    intro us r;rw [List.map_cons] at r;cases r with
    | cons r1 r2 =>
      obtain ⟨t, rfl⟩ := r1;exact .cons _ _ (ih r2)
section
variable {X : Cx}
theorem z0E (hc : X.calm = true) : kf X (.builtin "sum") (fun xs H Q => ∃ (a : Addr) (ns : List Int), xs = [.ref a] ∧ SqL X.K H a (ns.map V.int) ∧ Q (.int ns.sum) H) := by
  intro pins s σ H xs us Q I r h;obtain ⟨a, ns, rfl, hq, q⟩ := h;obtain ⟨u, rfl, rx⟩ := vals1 r;cases rx;obtain ⟨its, r', pl, hz⟩ := I.list hq;have hi : IntsAre its.toArray.toList ns := intsAre_of r';obtain ⟨xs, hx⟩ := hi.allInts.items;have hl' : s.heap.IsList a (intItems xs) := hx ▸ pl.isList;refine sum_intListG (I.ok.hd hc) hl' fun h' tk t' hk => ?_
  have e1 : ns = xs.toList.map (·.1) := by
    rw [← nums_intItems, ← hx];exact (show numsOf its.toArray.toList = ns from hi.numsOf).symm
  have e2 : preSum (numAt xs) xs.size = ns.sum := by
    rw [preSum_eq, List.take_of_length_le (by simp), e1]
  rw [e2];exact ⟨.int ns.sum, H, I.kept hk, ⟨_, rfl⟩, q⟩
noncomputable def z84 (x : V) (z : Str) : Prop := (∃ i : Int, x = .int i ∧ i.natAbs.log2 < 1920 ∧ z = toString i) ∨ x = .str z
theorem z0U : kf X (.type "str") (fun xs H Q => ∃ x z, xs = [x] ∧ z84 x z ∧ Q (.str z) H) := by
  intro pins s σ H xs us Q I r h;obtain ⟨x, z, rfl, h, q⟩ := h;rcases h with ⟨i, rfl, hi, rfl⟩ | rfl
  · exact z4H pins s σ H _ us Q I r ⟨i, rfl, hi, q⟩
  · obtain ⟨u, rfl, t, rfl⟩ := vals1 r;exact PySem.P.str_of_str ⟨.str z, H, I, ⟨_, rfl⟩, q⟩
noncomputable def rJoin (K : PySem.W.Frag) : V → List V → Hp → VK → Prop := fun x vs H Q => ∃ z l ys, x = .str z ∧ vs = [.ref l] ∧ SqL K H l (ys.map V.str) ∧ (ys.map (·.length)).sum + ys.length * z.length ≤ 16777216 ∧ Q (.str (Str.join z ys)) H
theorem z6n : MtM X "str.join" (rJoin X.K) := by
  intro pins s σ H x vs v us Q I rx rv h;obtain ⟨z, l, ys, rfl, rfl, hq, hz, q⟩ := h;obtain ⟨t, rfl⟩ := rx;obtain ⟨u, rfl, ru⟩ := rv.one;cases ru;obtain ⟨its, r, pl, hsz⟩ := I.list hq;refine join_list (items := its.toArray) pl.isList (z6a r) hz fun t' k => ?_
  have e : Txt.join z ys = Str.join z ys := StrLaws.glued_eq_join _ _;rw [e];exact ⟨.str _, H, I.tok _, ⟨_, rfl⟩, q⟩
noncomputable def eqL (xs ys : List V) : Bool := decide (xs.length = ys.length) && (List.range xs.length).all fun j => eqV (xs.getD j .non) (ys.getD j .non)
noncomputable def z8Z (K : PySem.W.Frag) : R2 := fun x y H Q => ∃ a b xs ys, x = .ref a ∧ y = .ref b ∧ SqL K H a xs ∧ SqL K H b ys ∧ xs.all kg = true ∧ ys.all kg = true ∧ Q (.bl (eqL xs ys)) H
theorem z77 (hu1 : X.A.units + 1 < cLine) : OpR X (compareOp .Eq) (z8Z X.K) := by
  intro pins s σ H x y v u Q I rx ry h;have hu : X.A.units < cLine := by omega
  obtain ⟨a, b, xs, ys, rfl, rfl, ha, hb, fx, fy, q⟩ := h;cases rx;cases ry;obtain ⟨its, r, pl, hz⟩ := I.list ha;obtain ⟨its2, r2, pl2, _⟩ := I.list hb;have l1 := r.length;have l2 := r2.length;by_cases hl : xs.length = ys.length
  · refine SeqAt.eq_listAt (e := fun j => eqV (xs.getD j .non) (ys.getD j .non)) pl.isList pl2.isList (by rw [List.size_toArray, List.size_toArray]; omega) hu (fun j h1 h2 => ?_) ?_
    · have hx : j < xs.length := by rw [List.size_toArray] at h1; omega
      have hy : j < ys.length := by omega
      have gx : xs[j]? = some xs[j] := List.getElem?_eq_getElem hx;have gy : ys[j]? = some ys[j] := List.getElem?_eq_getElem hy;obtain ⟨w1, e1, rw1⟩ := r.get gx;obtain ⟨w2, e2, rw2⟩ := r2.get gy;have hh1 : its.toArray[j] = w1 := by rw [List.getElem_toArray]; exact (List.getElem?_eq_some_iff.mp e1).2
      have hh2 : its2.toArray[j] = w2 := by rw [List.getElem_toArray]; exact (List.getElem?_eq_some_iff.mp e2).2
      rw [hh1, hh2, List.getD_eq_getElem?_getD, List.getD_eq_getElem?_getD, gx, gy];exact z5H rw1 rw2 (List.all_eq_true.mp fx _ (List.mem_of_getElem? gx)) (List.all_eq_true.mp fy _ (List.mem_of_getElem? gy))
    · refine ⟨.bl (eqL xs ys), H, I, ?_, q⟩
      show Value.bool _ = Value.bool _
      rw [eqL, decide_eq_true hl, Bool.true_and, List.size_toArray, ← l1]
  · refine SeqAt.eq_list_lengthsAt pl.isList pl2.isList ?_ hu ⟨.bl (eqL xs ys), H, I, ?_, q⟩
    · rw [List.size_toArray, List.size_toArray, bne_iff_ne, ← l1, ← l2]; exact hl
    · show Value.bool false = Value.bool _
      rw [eqL, decide_eq_false hl, Bool.false_and]
end
theorem z5g {ss tt : List Str} : eqL (ss.map V.str) (tt.map V.str) = decide (ss = tt) := by
  unfold eqL;rw [List.length_map, List.length_map];by_cases e : ss = tt
  · subst e;rw [decide_eq_true rfl, decide_eq_true rfl, Bool.true_and, List.all_eq_true];intro j hj;rw [List.mem_range] at hj;rw [List.getD_eq_getElem?_getD, List.getElem?_map, List.getElem?_eq_getElem hj]
    show (ss[j] == ss[j]) = true
    exact beq_self_eq_true _
  · rw [decide_eq_false e];by_cases hl : ss.length = tt.length
    · rw [decide_eq_true hl, Bool.true_and, Bool.eq_false_iff];intro h;rw [List.all_eq_true] at h;refine e (List.ext_getElem hl fun j h1 h2 => ?_);have := h j (List.mem_range.mpr h1);rw [List.getD_eq_getElem?_getD, List.getElem?_map, List.getElem?_eq_getElem h1, List.getD_eq_getElem?_getD, List.getElem?_map, List.getElem?_eq_getElem h2] at this;have h3 : (ss[j] == tt[j]) = true := this;exact eq_of_beq h3
    · rw [decide_eq_false hl, Bool.false_and]
theorem z8H {K : PySem.W.Frag} {a : Addr} {xs : List V} {σ : St} {ix : List Nat} {tc : TT} {te : TE} {Q : List V → Hp → Prop} {H : Hp} (Pv : Nat → List V → Hp → Prop) (h0 : Pv 0 [] H) (hl : ∀ i ys H, i ≤ xs.length → Pv i ys H → SqT K H a xs ∧ ys.length < sizeLine)
    (hs : ∀ (i : Nat) x ys H, xs[i]? = some x → Pv i ys H → tc (sub σ ix (some x)) H fun b H2 => if b = true then te (sub σ ix (some x)) H2 fun y H3 => Pv (i + 1) (ys ++ [y]) H3 else Pv (i + 1) ys H2) (hd : ∀ ys H, Pv xs.length ys H → Q ys H) : z0g (Itt K a) σ ix tc te Q H := by
  refine ⟨fun i m ys H => m = xs.length - i ∧ i ≤ xs.length ∧ Pv i ys H, ⟨_, rfl, Nat.zero_le _, h0⟩, ?_⟩;rintro i m ys H ⟨rfl, hi, p⟩;obtain ⟨q, hz⟩ := hl i ys H hi p;refine ⟨hz, ?_⟩;by_cases hlt : i < xs.length
  · refine .inr ⟨⟨xs, xs[i], q, by simp [hlt]⟩, fun y H3 => Pv (i + 1) (ys ++ [y]) H3, fun H2 => Pv (i + 1) ys H2, fun y H3 z => ⟨xs.length - (i + 1), by omega, rfl, hlt, z⟩, fun H2 z => ⟨xs.length - (i + 1), by omega, rfl, hlt, z⟩, fun x H' y => ?_⟩;obtain ⟨e, y⟩ := y;subst e;exact hs i x ys _ (y xs q) p
  · have e : i = xs.length := by omega
    subst e;exact .inl ⟨⟨xs, q, Nat.le_refl _⟩, hd ys H p⟩
theorem z1U {K : PySem.W.Frag} {a : Addr} {xs : List V} {σ : St} {ix : List Nat} {te : TE} {Q : List V → Hp → Prop} {H : Hp} (Pv : Nat → List V → Hp → Prop) (h0 : Pv 0 [] H) (hl : ∀ i ys H, i ≤ xs.length → Pv i ys H → SqT K H a xs ∧ ys.length < sizeLine)
    (hs : ∀ (i : Nat) x ys H, xs[i]? = some x → Pv i ys H → te (sub σ ix (some x)) H fun y H3 => Pv (i + 1) (ys ++ [y]) H3) (hd : ∀ ys H, Pv xs.length ys H → Q ys H) : z0g (Itt K a) σ ix z59 te Q H :=
  z8H Pv h0 hl (fun i x ys H e p => z5V (A := te (sub σ ix (some x)) H fun y H3 => Pv (i + 1) (ys ++ [y]) H3) (B := Pv (i + 1) ys H) (hs i x ys H e p)) hd
theorem z3W {p q : Nat → Bool} : ∀ {l : List Nat}, (∀ x ∈ l, p x = true → q x = true) → (∃ x ∈ l, q x = true ∧ p x = false) → l.countP p < l.countP q
  | [], _, ⟨x, hx, _⟩ => by cases hx
  | y :: l, h, ⟨x, hx, h1, h2⟩ => by
    have hle : l.countP p ≤ l.countP q := List.countP_mono_left fun z hz => h z (List.mem_cons_of_mem _ hz)
    rw [List.countP_cons, List.countP_cons];rcases List.mem_cons.mp hx with rfl | hx
    · rw [h1, h2]; simp; omega
    · have ih := z3W (fun z hz => h z (List.mem_cons_of_mem _ hz)) ⟨x, hx, h1, h2⟩;have hy := h y List.mem_cons_self;cases hp : p y <;> cases hq : q y <;> simp_all <;> omega
noncomputable def rank (n : Nat) (lt : Nat → Nat → Bool) (i : Nat) : Int := (((List.range n).countP fun m => lt m i : Nat) : Int)
theorem z96 {n : Nat} {lt : Nat → Nat → Bool} (ir : ∀ i, lt i i = false) (tr : ∀ i j k, lt i j = true → lt j k = true → lt i k = true) (nt : ∀ i j k, lt i k = true → lt i j = true ∨ lt j k = true) {i j : Nat} (hi : i < n) (hj : j < n) :
    decide (rank n lt i < rank n lt j) = lt i j := by
  cases h : lt i j with
  | true =>
    refine decide_eq_true ?_;have : (List.range n).countP (fun m => lt m i) < (List.range n).countP (fun m => lt m j) := z3W (fun x _ e => tr x i j e h) ⟨i, List.mem_range.mpr hi, h, ir i⟩;unfold rank; omega
  | false =>
    refine decide_eq_false ?_;have : (List.range n).countP (fun m => lt m j) ≤ (List.range n).countP (fun m => lt m i) := List.countP_mono_left fun x _ e => by
      rcases nt x i j e with h' | h'
      · exact h'
      · rw [h] at h'; cases h'
    unfold rank; omega
theorem z7E {vs : List Value} {R : Nat → Nat → Prop} (h : vs.length < 2) : (List.range vs.length).Pairwise R := by
  match vs, h with
  | [], _ => exact List.Pairwise.nil
  | [x], _ => exact List.pairwise_singleton _ _
theorem z3P {vs ks : List Value} (h : vs.length < 2) (e : ks.length = vs.length) : (ks.toArray.zip vs.toArray).map (·.2) = ((List.range vs.length).map fun i => vs.getD i Value.none).toArray := by
  match vs, ks, h, e with
  | [], [], _, _ => simp
  | [x], [y], _, _ => simp
theorem z3B {prog : Program} {w : World} {A : Around} {E : Value → Shared → Prop} {s : Shared} {a : Addr} {vs : List Value} {n : Nat} {P : PySem.Fin → Shared → Prop} {κ : SortKind} {k : Nat → Int} (ho : s.heap.get? a = some (seqObj "list" vs.toArray n)) (h64 : vs.length < 64)
    (hkk : 2 ≤ vs.length → ∀ (h' : Heap) (Q : SortKind → Shared → Prop), (∀ b o, b ≠ a → s.heap.get? b = some o → h'.get? b = some o) → Q κ { s with heap := h' } → wpAny (model prog w) A (keyKind' vs.toArray) Q E { s with heap := h' })
    (hcm : ∀ (h' : Heap), (∀ b o, b ≠ a → s.heap.get? b = some o → h'.get? b = some o) → ∀ i j (C : Bool → Shared → Prop), i < vs.length → j < vs.length → C (decide (k i < k j)) { s with heap := h' } →
      wpAny (model prog w) A (keyLt' κ (vs.getD i Value.none) (vs.getD j Value.none)) C (fun _ _ => False) { s with heap := h' })
    (h : ∀ is : List Nat, is.Perm (List.range vs.length) → is.Pairwise (Rk k) → P (.done (.ret .none)) { s with heap := sortedHeap s.heap a vs (is.map fun i => vs.getD i Value.none).toArray }) :
    wpAny (model prog w) A (Builtin.«list.sort» ⟨[.ref a], []⟩) P E s := by
  rw [list_sort_plain];have ha : a < s.heap.objs.size := Heap.lt_size ho;refine wpAny_bind (listItems_at ho rfl ?_);refine wpAny_bind (listUpdate_at ho rfl ?_);obtain ⟨e1, ho1⟩ : ∃ e1, (s.heap.update a (Obj.mapSeq fun _ => #[])).get? a = some (seqObj "list" #[] e1) := ⟨_, get?_update_seq ho (fun _ => #[])⟩
  refine wpAny_bind (seqEpoch_at ho1 rfl ?_);refine wpAny_bind (wpAny_newTuple ?_);refine wpAny_bind (wpAny_newList ?_);refine wpAny_holding ?_;have ho6 : (((s.heap.update a (Obj.mapSeq fun _ => #[])).push (seqObj "tuple" vs.toArray 0)).push (seqObj "list" #[] 0)).get? a = some (seqObj "list" #[] e1) := by
    rw [Heap.get?_push_ne _ _ _ (by rw [size_push', Heap.size_update]; exact Nat.ne_of_lt (Nat.lt_succ_of_lt ha)), Heap.get?_push_ne _ _ _ (by rw [Heap.size_update]; exact Nat.ne_of_lt ha)];exact ho1
  have kp : ∀ b o, b ≠ a → s.heap.get? b = some o → (((s.heap.update a (Obj.mapSeq fun _ => #[])).push (seqObj "tuple" vs.toArray 0)).push (seqObj "list" #[] 0)).get? b = some o := fun b o hb e => by
    refine Heap.get?_push_of_some _ (Heap.get?_push_of_some _ ?_);rw [Heap.get?_update_ne _ _ _ _ hb];exact e
  show wpAny (model prog w) A _ P E { s with heap := ((s.heap.update a (Obj.mapSeq fun _ => #[])).push (seqObj "tuple" vs.toArray 0)).push (seqObj "list" #[] 0) }
  dsimp only;have hsz : vs.toArray.size = vs.length := by simp
  by_cases h2 : vs.toArray.size < 2
  · rw [if_pos h2, if_pos h2];refine wpAny_bind (wpAny_pure ?_);rw [StateT.run_pure];refine wpAny_bind (wpAny_pure ?_);dsimp only;refine wpAny_bind (seqEpoch_at ho6 rfl ?_);refine wpAny_bind (listUpdate_at ho6 rfl ?_ (hsz2 := by rw [Array.size_map]; show (pairsOf vs).size ≤ _; rw [pairsOf_size, sizeLine_eq]; omega));simp only [bne_self_eq_false, Bool.false_eq_true, if_false];have hs' : vs.length < 2 := by omega
    have e0 : (arrOf (SortSt.mk' general' (vs.toArray.zip vs.toArray) #[] 7 none)).map (·.2) = ((List.range vs.length).map fun i => vs.getD i Value.none).toArray := by
      have e9 : arrOf (SortSt.mk' general' (vs.toArray.zip vs.toArray) #[] 7 none) = vs.toArray.zip vs.toArray := rfl;rw [e9];exact z3P hs' rfl
    refine wpAny_pure ?_;have := h (List.range vs.length) (List.Perm.refl _) (z7E hs');rw [← e0] at this;exact this
  · rw [if_neg h2, if_neg h2];refine wpAny_bind (hkk (by omega) _ _ kp ?_);refine wpAny_bind (wpAny_mono (kat_run (Q := fun st' s' => ∃ p : Array Nat, (arrOf st').map (·.2) = (p.toList.map fun i => vs.getD i Value.none).toArray ∧ failedOf st' = none ∧ s' = { s with heap := ((s.heap.update a (Obj.mapSeq fun _ => #[])).push (seqObj "tuple" vs.toArray 0)).push (seqObj "list" #[] 0) } ∧ p.toList.Perm (List.range vs.length) ∧ p.toList.Pairwise (Rk k)) (vs := vs) (ks := vs) (G := fun p s' => s' = { s with heap := ((s.heap.update a (Obj.mapSeq fun _ => #[])).push (seqObj "tuple" vs.toArray 0)).push (seqObj "list" #[] 0) } ∧ p.toList.Perm (List.range vs.length) ∧ p.toList.Pairwise (Rk k)) rfl (by omega) h64 (fun p st' s' h1 h3 h4 h5 => ⟨p, kat_snds rfl h3, h4, h5⟩)
      (z5O (n := vs.length) (k := k) (fun i j C hi hj hC => hcm _ kp i j C hi hj hC) (jM (fun p hp => ⟨rfl, hp⟩) (z6u (by omega) k)))) ?_ fun _ _ e => e)
    rintro ⟨⟨⟩, st'⟩ s' ⟨p, e0, h4, rfl, pm, pw⟩;dsimp only;refine wpAny_bind (seqEpoch_at ho6 rfl ?_);refine wpAny_bind (listUpdate_at ho6 rfl ?_ (hsz2 := by rw [e0, List.size_toArray, List.length_map, pm.length_eq, List.length_range, sizeLine_eq]; omega));rw [h4];simp only [bne_self_eq_false, Bool.false_eq_true, if_false];have := h p.toList pm pw;rw [← e0] at this;exact wpAny_pure this
noncomputable def z0A (a b : Int × Int) : Bool := decide (a.1 < b.1 ∨ (a.1 = b.1 ∧ a.2 < b.2))
theorem z8U {prog : Program} {w : World} {A : Around} {s : Shared} {x y : Addr} {a b c d : Int} {t u v z : Tok} {C : Bool → Shared → Prop} {E : Value → Shared → Prop} (hx : IsTup s.heap x #[.int a t, .int b u]) (hy : IsTup s.heap y #[.int c v, .int d z]) (h : C (z0A (a, b) (c, d)) s) :
    wpAny (model prog w) A (keyLt' (tuples' true) (.ref x) (.ref y)) C E s := by
  obtain ⟨ox, hx1, _, n1, hx2⟩ := hx;obtain ⟨oy, hy1, _, n2, hy2⟩ := hy;refine kat_lt hx1 hx2 hy1 hy2 ?_;refine kat_cons (SeqAt.EqAt.int_int a t c v prog w _ _ (kat_go (fun e => kat_yes ?_) (fun e => kat_no ?_)))
  · have e1 : a = c := by simpa using e
    refine kat_cons (SeqAt.EqAt.int_int b u d z prog w _ _ (kat_go (fun e => kat_yes (kat_nil ?_)) (fun e => kat_no ?_)))
    · have e2 : b = d := by simpa using e
      have : z0A (a, b) (c, d) = false := decide_eq_false (by simp only; omega);rw [this] at h
      simpa using h
    · have : z0A (a, b) (c, d) = decide (b < d) := by
        unfold z0A;exact decide_eq_decide.mpr (by simp only; omega)
      rw [this] at h;refine kat_one _ _ ?_;exact PyProof.Rows.lt_int (Q := PySem.W.BoolBack C) h
  · have e1 : ¬ a = c := by simpa using e
    have : z0A (a, b) (c, d) = decide (a < c) := by
      unfold z0A;exact decide_eq_decide.mpr (by simp only; omega)
    rw [this] at h;exact oneLt_int h
theorem z7U (a : Int × Int) : z0A a a = false := decide_eq_false (by omega)
theorem z8Q {a b c : Int × Int} (h : z0A a b = true) (h' : z0A b c = true) : z0A a c = true := by
  have h := of_decide_eq_true h;have h' := of_decide_eq_true h';exact decide_eq_true (by omega)
theorem z97 {a b c : Int × Int} (h : z0A a c = true) : z0A a b = true ∨ z0A b c = true := by
  have h := of_decide_eq_true h;by_cases e : z0A a b = true
  · exact .inl e
  · refine .inr (decide_eq_true ?_);have e' : ¬ (a.1 < b.1 ∨ (a.1 = b.1 ∧ a.2 < b.2)) := fun z => e (decide_eq_true z)
    omega
noncomputable abbrev PQ := Addr × Int × Int
noncomputable def pq0 : PQ := (0, 0, 0)
section
variable {X : Cx}
theorem z6Q {H : Hp} {s : Shared} {pins : List (Addr × Obj)} {σ : St} (I : Inv X pins σ H s) {h' : Heap} (kp : ∀ b o xs n, s.heap.get? b = some o → o.data = .seq xs n → o.cls = .type "tuple" → h'.get? b = some o) : ∀ (ps : List PQ) (us : List Value), (∀ p ∈ ps, H p.1 = some (.tup [.int p.2.1, .int p.2.2])) → zP (ps.map fun p => V.ref p.1) us →
    ∃ fs : List Value, KatTups h' us fs ∧ fs.length = ps.length ∧ ∀ v ∈ fs, ∃ a t, v = Value.int a t
  | [], us, _, r => by cases r; exact ⟨[], .nil, rfl, fun v h => by cases h⟩
  | p :: ps, us, hp, r => by
    rw [List.map_cons] at r;cases r with
    | cons r1 r2 =>
      cases r1;obtain ⟨fs, k, l, hi⟩ := z6Q I kp ps _ (fun q hq => hp q (List.mem_cons_of_mem _ hq)) r2;obtain ⟨its, r', pl, _⟩ := I.tuple (SqT.of (hp p List.mem_cons_self));obtain ⟨u, w', rfl, ⟨t, rfl⟩, _⟩ := vals2 r';obtain ⟨o, ho, hcl, n, hd⟩ := pl;refine ⟨.int p.2.1 t :: fs, KatTups.cons (kp _ _ _ _ ho hd hcl) hcl hd rfl k, by rw [List.length_cons, l, List.length_cons], fun v hv => ?_⟩;rcases List.mem_cons.mp hv with rfl | hv
      · exact ⟨_, _, rfl⟩
      · exact hi v hv
theorem z4j (hc : X.calm = true) : kf X (.builtin "sorted") (fun xs H Q => ∃ (l : Addr) (ps : List PQ), xs = [.ref l] ∧ SqL X.K H l (ps.map fun p => V.ref p.1) ∧ (∀ p ∈ ps, H p.1 = some (.tup [.int p.2.1, .int p.2.2])) ∧ ps.length < 64 ∧
    ∀ (r : Addr) (is : List Nat), H r = none → is.Perm (List.range ps.length) → is.Pairwise (fun i j => z0A (ps.getD j pq0).2 (ps.getD i pq0).2 = false) → Q (.ref r) (upd H r (.lst (is.map fun i => V.ref (ps.getD i pq0).1)))) := by
  intro pins s σ H xs us Q I r h;obtain ⟨l, ps, rfl, hq, hp, h64, q⟩ := h;obtain ⟨u, rfl, rx⟩ := vals1 r;cases rx;obtain ⟨vs, rv, pl, hz⟩ := I.list hq;have hlen : vs.length = ps.length := by
    have := rv.length;rw [List.length_map] at this;omega
  refine Calls.call_function_entry kind_sorted plain_sorted entry_sorted (args_sorted1 _) ?_;unfold Builtin.«sorted»;refine wpAny_bind (m := checkCount "sorted" 1 1 _) (wpAny_pure ?_);refine wpAny_bind (collect_list pl.isList ?_ (by rw [sizeLine_eq]; omega));refine wpAny_bind (wpAny_newList ?_ (by rw [sizeLine_eq]; omega));obtain ⟨h1, eh1⟩ : ∃ h1, (s.heap.push (seqObj "list" #[] 0)).update s.heap.objs.size (Obj.mapSeq (· ++ vs.toArray)) = h1 := ⟨_, rfl⟩
  have kp1 : ∀ b o, s.heap.get? b = some o → h1.get? b = some o := fun b o e => by
    have hb := Heap.lt_size e;rw [← eh1, Heap.get?_update_ne _ _ _ _ (Nat.ne_of_lt hb)];exact Heap.get?_push_of_some _ e
  rw [eh1];have I1 : Inv X pins σ H { s with heap := h1 } := I.kept (t' := s.toks) kp1;have hoL : (h1.push (seqObj "list" vs.toArray 0)).get? h1.objs.size = some (seqObj "list" vs.toArray 0) := Heap.get?_push_size _ rfl;have kp2 : ∀ b o, s.heap.get? b = some o → b ≠ h1.objs.size ∧ (h1.push (seqObj "list" vs.toArray 0)).get? b = some o := fun b o e => ⟨Nat.ne_of_lt (Heap.lt_size (kp1 b o e)), Heap.get?_push_of_some _ (kp1 b o e)⟩
  obtain ⟨lt, hlt⟩ : ∃ lt : Nat → Nat → Bool, lt = fun i j => z0A (ps.getD i pq0).2 (ps.getD j pq0).2 := ⟨_, rfl⟩
  have rk : ∀ {i j : Nat}, i < ps.length → j < ps.length → decide (rank ps.length lt i < rank ps.length lt j) = lt i j := fun hi hj =>
    z96 (fun i => by rw [hlt]; exact z7U _) (fun i j k a b => by rw [hlt] at *; exact z8Q a b) (fun i j k a => by rw [hlt] at *; exact z97 a) hi hj
  refine wpAny_bind (wpAny_holding (wpAny_call_entry slot_list_sort ⟨_, hoL, rfl⟩ entry_list_sort (z3B (κ := tuples' true) (k := rank ps.length lt) hoL (by omega) (fun h2 h' Q' kp hQ => ?kk) (fun h' kp i j C hi hj hC => ?cm) fun is pm pw => ⟨_, rfl, ?fin⟩) (args_list_sort _)))
  case kk =>
    obtain ⟨fs, k, lf, hi⟩ := z6Q I (h' := h') (fun b o xs n e _ _ => kp b o (kp2 b o e).1 (kp2 b o e).2) ps vs hp rv;refine kat_kind (T := .type "int") k (by omega) (fun v hv => ?_) (by decide) hQ;obtain ⟨a, t, rfl⟩ := hi v hv;exact .now
  case cm =>
    have get : ∀ m, m < ps.length → ∃ (t u : Tok), vs.getD m Value.none = .ref (ps.getD m pq0).1 ∧ IsTup h' (ps.getD m pq0).1 #[.int (ps.getD m pq0).2.1 t, .int (ps.getD m pq0).2.2 u] := fun m hm => by
      have g : (ps.map fun p => V.ref p.1)[m]? = some (V.ref ps[m].1) := by rw [List.getElem?_map, List.getElem?_eq_getElem hm]; rfl
      have e0 : ps.getD m pq0 = ps[m] := by rw [List.getD_eq_getElem?_getD, List.getElem?_eq_getElem hm]; rfl
      obtain ⟨w, ew, rw'⟩ := rv.get g;cases rw';obtain ⟨its, r', pl, _⟩ := I.tuple (SqT.of (hp _ (List.getElem_mem hm)));obtain ⟨u, w', rfl, ⟨t, rfl⟩, ⟨t', rfl⟩⟩ := vals2 r';obtain ⟨o, ho, hcl, n, hd⟩ := pl;refine ⟨t, t', ?_, ?_⟩
      · rw [List.getD_eq_getElem?_getD, ew, e0]; rfl
      · rw [e0];exact ⟨o, kp _ _ (kp2 _ _ ho).1 (kp2 _ _ ho).2, hcl, n, hd⟩
    obtain ⟨t, u, e1, t1⟩ := get i (by omega);obtain ⟨t', u', e2, t2⟩ := get j (by omega);rw [e1, e2];rw [rk (by omega) (by omega), hlt] at hC;exact z8U t1 t2 hC
  case fin =>
    refine wpAny_pure ⟨_, rfl, ?_⟩;obtain ⟨e, he⟩ := sortedHeap_at (out := (is.map fun i => vs.getD i Value.none).toArray) hoL;rw [hlen] at pm;have pw' : is.Pairwise (fun i j => z0A (ps.getD j pq0).2 (ps.getD i pq0).2 = false) := by
      refine (List.pairwise_iff_getElem.mpr fun a b ha hb hab => ?_);have h0 := List.pairwise_iff_getElem.mp pw a b ha hb hab;have ma : is[a] < ps.length := List.mem_range.mp (pm.mem_iff.mp (List.getElem_mem ha));have mb : is[b] < ps.length := List.mem_range.mp (pm.mem_iff.mp (List.getElem_mem hb));have := rk mb ma;have e3 : lt is[b] is[a] = z0A (ps.getD is[b] pq0).2 (ps.getD is[a] pq0).2 := by rw [hlt]
      rw [← e3, ← this];refine decide_eq_false ?_;unfold Rk at h0;omega
    refine ⟨.ref h1.objs.size, upd H h1.objs.size (.lst (is.map fun i => V.ref (ps.getD i pq0).1)), ?_, rfl, q _ is I1.fresh pm pw'⟩;refine I1.laid (a := h1.objs.size) (t' := s.toks) (fun b o e => ?_) (Nat.le_refl _) ⟨?_, is.map fun i => vs.getD i Value.none, e, ?_, ?_⟩
    · have hb := Heap.lt_size e;rw [sortedHeap_old (Nat.ne_of_lt hb) (by rw [Heap.size_push]; exact Nat.lt_succ_of_lt hb)];exact Heap.get?_push_of_some _ e
    · rw [List.length_map, pm.length_eq, List.length_range];exact zq (by omega)
    · have go : ∀ js : List Nat, (∀ j ∈ js, j < ps.length) → zP (js.map fun i => V.ref (ps.getD i pq0).1) (js.map fun i => vs.getD i Value.none) := fun js => by
        induction js with
        | nil => intro _; exact .nil
        | cons j js ih =>
          intro hj;rw [List.map_cons, List.map_cons];refine .cons ?_ (ih fun m hm => hj m (List.mem_cons_of_mem _ hm));have hm := hj j List.mem_cons_self;have g : (ps.map fun p => V.ref p.1)[j]? = some (V.ref ps[j].1) := by rw [List.getElem?_map, List.getElem?_eq_getElem hm]; rfl
          obtain ⟨w, ew, rw'⟩ := rv.get g;rw [List.getD_eq_getElem?_getD, List.getElem?_eq_getElem hm, List.getD_eq_getElem?_getD, ew];exact rw'
      exact go is fun j hj => List.mem_range.mp (pm.mem_iff.mp hj)
    · exact he
end
end L2
namespace L2
open PySem
@[elab_as_elim] theorem zf {motive : Hp → Prop} {H : Hp} {p : Addr} {o : HO} (K : Hp) (e : K = upd H p o) (hp : H p = none) (h : ∀ H', zF H H' → H' p = some o → motive H') : motive K := by
  subst e;exact h _ (zG hp o) zm
end L2

namespace Qs
open PySem L2 Cn Rw
inductive Qn where
  | table (n : Str) | pick (c : Cond) (q : Qn) | cols (ns : List Str) (q : Qn) | pair (q r : Qn) | join (a b : Str) (q r : Qn)
  | both (q r : Qn) | first (n : Int) (q : Qn) | group (a b n s : Str) (q : Qn) | sort (a : Str) (q : Qn)
noncomputable def QAt (H : Hp) : Qn → V → Prop
  | .table n, v => ∃ p, v = .ref p ∧ H p = some (.tup [.str "table", .str n])
  | .pick c q, v => ∃ p x y, v = .ref p ∧ H p = some (.tup [.str "pick", x, y]) ∧ zN H c x ∧ QAt H q y
  | .cols ns q, v => ∃ p x y, v = .ref p ∧ H p = some (.tup [.str "cols", .ref x, y]) ∧ H x = some (.tup (ns.map V.str)) ∧ QAt H q y
  | .pair q r, v => ∃ p x y, v = .ref p ∧ H p = some (.tup [.str "pair", x, y]) ∧ QAt H q x ∧ QAt H r y
  | .join a b q r, v => ∃ p x y, v = .ref p ∧ H p = some (.tup [.str "join", .str a, .str b, x, y]) ∧ QAt H q x ∧ QAt H r y
  | .both q r, v => ∃ p x y, v = .ref p ∧ H p = some (.tup [.str "both", x, y]) ∧ QAt H q x ∧ QAt H r y
  | .first n q, v => ∃ p y, v = .ref p ∧ H p = some (.tup [.str "first", .int n, y]) ∧ QAt H q y
  | .group a b n s q, v => ∃ p y, v = .ref p ∧ H p = some (.tup [.str "group", .str a, .str b, .str n, .str s, y]) ∧ QAt H q y
  | .sort a q, v => ∃ p y, v = .ref p ∧ H p = some (.tup [.str "sort", .str a, y]) ∧ QAt H q y
theorem QAt.mono {H H' : Hp} (t : ∀ b xs, H b = some (.tup xs) → H' b = some (.tup xs)) : ∀ {q : Qn} {v : V}, QAt H q v → QAt H' q v
  | .table _, _, h => by
    obtain ⟨p, rfl, h⟩ := h;exact ⟨p, rfl, t _ _ h⟩
  | .pick _ _, _, h => by
    obtain ⟨p, x, y, rfl, h, h1, h2⟩ := h;exact ⟨p, x, y, rfl, t _ _ h, h1.mono t, h2.mono t⟩
  | .cols _ _, _, h => by
    obtain ⟨p, x, y, rfl, h, h1, h2⟩ := h;exact ⟨p, x, y, rfl, t _ _ h, t _ _ h1, h2.mono t⟩
  | .pair _ _, _, h => by
    obtain ⟨p, x, y, rfl, h, h1, h2⟩ := h;exact ⟨p, x, y, rfl, t _ _ h, h1.mono t, h2.mono t⟩
  | .join _ _ _ _, _, h => by
    obtain ⟨p, x, y, rfl, h, h1, h2⟩ := h;exact ⟨p, x, y, rfl, t _ _ h, h1.mono t, h2.mono t⟩
  | .both _ _, _, h => by
    obtain ⟨p, x, y, rfl, h, h1, h2⟩ := h;exact ⟨p, x, y, rfl, t _ _ h, h1.mono t, h2.mono t⟩
  | .first _ _, _, h => by
    obtain ⟨p, y, rfl, h, h2⟩ := h;exact ⟨p, y, rfl, t _ _ h, h2.mono t⟩
  | .group _ _ _ _ _, _, h => by
    obtain ⟨p, y, rfl, h, h2⟩ := h;exact ⟨p, y, rfl, t _ _ h, h2.mono t⟩
  | .sort _ _, _, h => by
    obtain ⟨p, y, rfl, h, h2⟩ := h;exact ⟨p, y, rfl, t _ _ h, h2.mono t⟩
theorem QAt.same {H H' : Hp} {q : Qn} {v : V} (e : zF H H') (h : QAt H q v) : QAt H' q v := h.mono fun b xs z => e b _ z
noncomputable def Side.txt : Side → Str
  | .nm s => s
  | .nu i => toString i
noncomputable def ends (a b : Side) : Str := Side.txt a ++ " " ++ Side.txt b
noncomputable def yc : Cond → Str
  | .less a b => "(" ++ "less" ++ " " ++ ends a b ++ ")"
  | .same a b => "(" ++ "same" ++ " " ++ ends a b ++ ")"
  | .no c => "(" ++ "not" ++ " " ++ yc c ++ ")"
  | .an c d => "(" ++ "and" ++ " " ++ (yc c ++ " " ++ yc d) ++ ")"
  | .or c d => "(" ++ "or" ++ " " ++ (yc c ++ " " ++ yc d) ++ ")"
noncomputable def zA : Qn → Str
  | .table n => n
  | .pick c q => "(pick " ++ yc c ++ " " ++ zA q ++ ")"
  | .cols ns q => "(cols " ++ Str.join " " ns ++ " " ++ zA q ++ ")"
  | .pair q r => "(pair " ++ zA q ++ " " ++ zA r ++ ")"
  | .join a b q r => "(join " ++ a ++ " " ++ b ++ " " ++ zA q ++ " " ++ zA r ++ ")"
  | .both q r => "(both " ++ zA q ++ " " ++ zA r ++ ")"
  | .first n q => "(first " ++ (toString n : Str) ++ " " ++ zA q ++ ")"
  | .group a b n s q => "(group " ++ (a ++ " " ++ b ++ " " ++ n ++ " " ++ s) ++ " " ++ zA q ++ ")"
  | .sort a q => "(sort " ++ a ++ " " ++ zA q ++ ")"
noncomputable def leK (k : Nat → Int) (i j : Nat) : Bool := decide (k i < k j ∨ (k i = k j ∧ i ≤ j))
noncomputable def z1P (k : Nat → Int) (n : Nat) : List Nat := (List.range n).mergeSort (leK k)
theorem z0G (k : Nat → Int) (n : Nat) : (z1P k n).Perm (List.range n) := List.mergeSort_perm _ _
theorem z9P (k : Nat → Int) (n : Nat) : (z1P k n).Pairwise fun i j => leK k i j = true :=
  List.pairwise_mergeSort (fun a b c h1 h2 => by
    have h1 := of_decide_eq_true h1;have h2 := of_decide_eq_true h2;exact decide_eq_true (by omega)) (fun a b => by
    unfold leK;rw [Bool.or_eq_true, decide_eq_true_eq, decide_eq_true_eq];omega) _
theorem z2h {k : Nat → Int} {n : Nat} {is : List Nat} (hp : is.Perm (List.range n)) (hw : is.Pairwise fun i j => leK k i j = true) : is = z1P k n := by
  refine List.Perm.eq_of_pairwise (le := fun i j => leK k i j = true) (fun a b _ _ h1 h2 => ?_) hw (z9P k n) (hp.trans (z0G k n).symm);have h1 := of_decide_eq_true h1;have h2 := of_decide_eq_true h2;omega
theorem z69 (k : Nat → Int) (n : Nat) : (z1P k n).length = n := by rw [(z0G k n).length_eq, List.length_range]
noncomputable def z4P (rows : List (List Int)) (s : Nat) (i : Nat) : Int := (rows.getD i []).getD s 0
noncomputable def z0L (s : Nat) (rows : List (List Int)) : List (List Int) := (z1P (z4P rows s) rows.length).map fun i => rows.getD i []
noncomputable def jA (s : Nat) (rows : List (List Int)) : List Int := rows.foldl (fun acc r => if r.getD s 0 ∈ acc then acc else acc ++ [r.getD s 0]) []
noncomputable def yA (s p : Nat) (rows : List (List Int)) (k : Int) : List Int := [k, (((rows.filter fun r => decide (r.getD s 0 = k)).length : Nat) : Int), ((rows.filter fun r => decide (r.getD s 0 = k)).map fun r => r.getD p 0).sum]
noncomputable def z1d (s p : Nat) (rows : List (List Int)) : List (List Int) := (jA s rows).map (yA s p rows)
noncomputable def pairs (xs ys : List (List Int)) : List (List Int) := xs.flatMap fun x => ys.map fun y => x ++ y
section
variable (th : Str → List Str) (tr : Str → List (List Int))
noncomputable def zc : Qn → List Str
  | .table n => th n
  | .pick _ q => zc q
  | .cols ns _ => ns
  | .pair q r => zc q ++ zc r
  | .join _ _ q r => zc q ++ zc r
  | .both q _ => zc q
  | .first _ q => zc q
  | .group a _ n s _ => [a, n, s]
  | .sort _ q => zc q
noncomputable def rowsOf : Qn → List (List Int)
  | .table n => tr n
  | .pick c q => (rowsOf q).filter fun r => ev (zc th q) r c
  | .cols ns q => (rowsOf q).map fun r => ns.map fun n => r.getD ((zc th q).idxOf n) 0
  | .pair q r => pairs (rowsOf q) (rowsOf r)
  | .join a b q r => (pairs (rowsOf q) (rowsOf r)).filter fun z => decide (z.getD ((zc th q ++ zc th r).idxOf a) 0 = z.getD ((zc th q ++ zc th r).idxOf b) 0)
  | .both q r => rowsOf q ++ rowsOf r
  | .first n q => (rowsOf q).take n.toNat
  | .group a b _ _ q => z1d ((zc th q).idxOf a) ((zc th q).idxOf b) (rowsOf q)
  | .sort a q => z0L ((zc th q).idxOf a) (rowsOf q)
end
noncomputable def zZ : List Str := ["a", "b", "f", "g", "h", "i", "j", "k", "l", "o", "p", "q"]
noncomputable def z1e : List Str := ["abcabcabcd", "abcabcabce"]
noncomputable def signs : List Str := ["a", "b", "c", "d", "e", "f", "g", "h", "i", "j", "k", "l", "m", "n", "o", "p", "q", "r", "s", "t", "u", "v", "w", "x", "y", "z"]
noncomputable def kJ (k used : Nat) : List Str := zZ ++ (if 2 ≤ used then z1e else []) ++ (if 3 ≤ used then (["e"] : List Str) else []) ++ ((signs.take k).map fun s => (("n" : Str) ++ s : Str)) ++ ((signs.take k).map fun s => (("s" : Str) ++ s : Str))
noncomputable def tabs : List Str := ["t", "tuvtuvtuvw", "tuvtuvtuvx", "tuvz"]
noncomputable def nums : List Int := [0, 1, -1, 2, 10 ^ 30, 3]
noncomputable def kO : List Int := [9, 1, 5, 3, 12, 7, 0, 10 ^ 9, 4, 2, 8]
noncomputable def Side.small (hs : List Str) : Side → Prop
  | .nm s => s ∈ hs
  | .nu i => i ∈ nums
noncomputable def jo (hs : List Str) : Cond → Prop
  | .less a b => Side.small hs a ∧ Side.small hs b
  | .same a b => Side.small hs a ∧ Side.small hs b
  | .no c => jo hs c
  | .an c d => jo hs c ∧ jo hs d
  | .or c d => jo hs c ∧ jo hs d
theorem jo.ok {hs : List Str} : ∀ {c : Cond}, jo hs c → c.ok hs
  | .less a b, h => by
    refine ⟨?_, ?_⟩
    · cases a with
      | nm s => exact h.1
      | nu i => trivial
    · cases b with
      | nm s => exact h.2
      | nu i => trivial
  | .same a b, h => by
    refine ⟨?_, ?_⟩
    · cases a with
      | nm s => exact h.1
      | nu i => trivial
    · cases b with
      | nm s => exact h.2
      | nu i => trivial
  | .no c, h => jo.ok (c := c) h
  | .an c d, h => ⟨jo.ok h.1, jo.ok h.2⟩
  | .or c d, h => ⟨jo.ok h.1, jo.ok h.2⟩
noncomputable def okQ (th : Str → List Str) : Qn → Prop
  | .table n => n ∈ tabs
  | .pick c q => jo (zc th q) c ∧ c.size ≤ 6 ∧ okQ th q
  | .cols ns q => ns ≠ [] ∧ ns.Nodup ∧ (∀ n ∈ ns, n ∈ zc th q) ∧ okQ th q
  | .pair q r => (∀ n ∈ zc th q, n ∉ zc th r) ∧ okQ th q ∧ okQ th r
  | .join a b q r => a ∈ zc th q ∧ b ∈ zc th r ∧ (∀ n ∈ zc th q, n ∉ zc th r) ∧ okQ th q ∧ okQ th r
  | .both q r => zc th q = zc th r ∧ okQ th q ∧ okQ th r
  | .first n q => n ∈ kO ∧ okQ th q
  | .group a b n s q => a ∈ zc th q ∧ b ∈ zc th q ∧ (∃ g ∈ signs, n = ("n" : Str) ++ g ∧ s = ("s" : Str) ++ g) ∧ a ≠ n ∧ a ≠ s ∧ okQ th q
  | .sort a q => a ∈ zc th q ∧ okQ th q
noncomputable def depth : Qn → Nat
  | .table _ => 1
  | .pick _ q => depth q + 1
  | .cols _ q => depth q + 1
  | .pair q r => max (depth q) (depth r) + 1
  | .join _ _ q r => max (depth q) (depth r) + 1
  | .both q r => max (depth q) (depth r) + 1
  | .first _ q => depth q + 1
  | .group _ _ _ _ q => depth q + 1
  | .sort _ q => depth q + 1
structure TabOk (th : Str → List Str) (tr : Str → List (List Int)) : Prop where
  t : ∃ m, 2 ≤ m ∧ m ≤ 12 ∧ th "t" = zZ.take m
  w : th "tuvtuvtuvw" = z1e
  x : th "tuvtuvtuvx" = (["e"] : List Str)
  z : th "tuvz" = th "t"
  rl : ∀ n ∈ tabs, ∀ r ∈ tr n, r.length = (th n).length
  ct : (tr "t").length ≤ 60
  cw : (tr "tuvtuvtuvw").length ≤ 10
  cx : (tr "tuvtuvtuvx").length ≤ 10
  cz : (tr "tuvz").length = 3
theorem z61 : zZ.Nodup := by decide +kernel
theorem zaP : ∀ g ∈ signs, (("n" : Str) ++ g : Str) ≠ (("s" : Str) ++ g : Str) := by decide +kernel
section
variable {th : Str → List Str} {tr : Str → List (List Int)}
theorem TabOk.hd (T : TabOk th tr) : ∀ n ∈ tabs, th n ≠ [] ∧ (th n).Nodup := by
  obtain ⟨m, m1, m2, e⟩ := T.t;have ht : th "t" ≠ [] ∧ (th "t").Nodup := by
    rw [e];refine ⟨fun z => ?_, z61.sublist (List.take_sublist _ _)⟩;have := congrArg List.length z;rw [List.length_take] at this;simp [zZ] at this;omega
  intro n hn;simp only [tabs, List.mem_cons, List.not_mem_nil, or_false] at hn;rcases hn with rfl | rfl | rfl | rfl
  · exact ht
  · rw [T.w]; exact ⟨by decide +kernel, by decide +kernel⟩
  · rw [T.x]; exact ⟨by decide +kernel, by decide +kernel⟩
  · rw [T.z]; exact ht
theorem jm (T : TabOk th tr) : ∀ {q : Qn}, okQ th q → zc th q ≠ [] ∧ (zc th q).Nodup
  | .table n, h => T.hd n h
  | .pick _ q, h => jm T (q := q) h.2.2
  | .cols ns q, h => ⟨h.1, h.2.1⟩
  | .pair q r, h => by
    have h1 := jm T (q := q) h.2.1;have h2 := jm T (q := r) h.2.2;refine ⟨by show _ ++ _ ≠ _; simp [h1.1], List.nodup_append.mpr ⟨h1.2, h2.2, fun a ha b hb e => h.1 a ha (e ▸ hb)⟩⟩
  | .join a b q r, h => by
    have h1 := jm T (q := q) h.2.2.2.1;have h2 := jm T (q := r) h.2.2.2.2;refine ⟨by show _ ++ _ ≠ _; simp [h1.1], List.nodup_append.mpr ⟨h1.2, h2.2, fun a ha b hb e => h.2.2.1 a ha (e ▸ hb)⟩⟩
  | .both q r, h => jm T (q := q) h.2.1
  | .first _ q, h => jm T (q := q) h.2
  | .group a b n s q, h => by
    obtain ⟨_, _, ⟨g, hg, rfl, rfl⟩, h1, h2, _⟩ := h;refine ⟨by show [_, _, _] ≠ []; simp, ?_⟩
    show List.Nodup [a, _, _]
    simp [h1, h2, zaP g hg]
  | .sort _ q, h => jm T (q := q) h.2
theorem z0R {xs ys : List (List Int)} {z : List Int} (h : z ∈ pairs xs ys) : ∃ x ∈ xs, ∃ y ∈ ys, z = x ++ y := by
  obtain ⟨x, hx, h⟩ := List.mem_flatMap.mp h;obtain ⟨y, hy, e⟩ := List.mem_map.mp h;exact ⟨x, hx, y, hy, e.symm⟩
theorem z41 {s : Nat} {rows : List (List Int)} {r : List Int} (h : r ∈ z0L s rows) : r ∈ rows := by
  obtain ⟨i, hi, e⟩ := List.mem_map.mp h;have hl := List.mem_range.mp ((z0G _ _).mem_iff.mp hi);rw [← e, List.getD_eq_getElem?_getD, List.getElem?_eq_getElem hl];exact List.getElem_mem hl
theorem jw (T : TabOk th tr) : ∀ {q : Qn}, okQ th q → ∀ r ∈ rowsOf th tr q, r.length = (zc th q).length
  | .table n, h => fun r m => T.rl n h r m
  | .pick c q, h => fun r m => jw T (q := q) h.2.2 r (List.mem_filter.mp m).1
  | .cols ns q, h => fun r m => by
    obtain ⟨x, _, rfl⟩ := List.mem_map.mp m;rw [List.length_map]; rfl
  | .pair q s, h => fun r m => by
    obtain ⟨x, hx, y, hy, rfl⟩ := z0R m
    show _ = (zc th q ++ zc th s).length
    rw [List.length_append, List.length_append, jw T (q := q) h.2.1 x hx, jw T (q := s) h.2.2 y hy]
  | .join a b q s, h => fun r m => by
    obtain ⟨x, hx, y, hy, rfl⟩ := z0R (List.mem_filter.mp m).1
    show _ = (zc th q ++ zc th s).length
    rw [List.length_append, List.length_append, jw T (q := q) h.2.2.2.1 x hx, jw T (q := s) h.2.2.2.2 y hy]
  | .both q s, h => fun r m => by
    rcases List.mem_append.mp m with m | m
    · exact jw T (q := q) h.2.1 r m
    · have := jw T (q := s) h.2.2 r m;rw [← h.1] at this;exact this
  | .first n q, h => fun r m => jw T (q := q) h.2 r (List.mem_of_mem_take m)
  | .group a b n s q, h => fun r m => by
    obtain ⟨x, _, rfl⟩ := List.mem_map.mp m
    rfl
  | .sort a q, h => fun r m => jw T (q := q) h.2 r (z41 m)
end
end Qs
namespace Qs
open PySem L2 Cn Rw
theorem z5s : ∀ s ∈ zZ, s.length ≤ 10 := by decide +kernel
theorem zaz : ∀ s ∈ z1e, s.length ≤ 10 := by decide +kernel
theorem zar : ∀ s ∈ (["e"] : List Str), s.length ≤ 10 := by decide +kernel
theorem z1m : ∀ g ∈ signs, (("n" : Str) ++ g : Str).length ≤ 10 ∧ (("s" : Str) ++ g : Str).length ≤ 10 ∧ g.length = 1 := by decide +kernel
section
variable {th : Str → List Str} {tr : Str → List (List Int)}
theorem z3E (T : TabOk th tr) : ∀ n ∈ tabs, ∀ s ∈ th n, s.length ≤ 10 := by
  obtain ⟨m, m1, m2, e⟩ := T.t;have ht : ∀ s ∈ th "t", s.length ≤ 10 := by
    rw [e];exact fun s hs => z5s s (List.mem_of_mem_take hs)
  intro n hn;simp only [tabs, List.mem_cons, List.not_mem_nil, or_false] at hn;rcases hn with rfl | rfl | rfl | rfl
  · exact ht
  · rw [T.w]; exact zaz
  · rw [T.x]; exact zar
  · rw [T.z]; exact ht
theorem zY (T : TabOk th tr) : ∀ {q : Qn}, okQ th q → ∀ s ∈ zc th q, s.length ≤ 10
  | .table n, h => z3E T n h
  | .pick _ q, h => zY T (q := q) h.2.2
  | .cols ns q, h => fun s hs => zY T (q := q) h.2.2.2 s (h.2.2.1 s hs)
  | .pair q r, h => fun s hs => by
    rcases List.mem_append.mp hs with hs | hs
    · exact zY T (q := q) h.2.1 s hs
    · exact zY T (q := r) h.2.2 s hs
  | .join a b q r, h => fun s hs => by
    rcases List.mem_append.mp hs with hs | hs
    · exact zY T (q := q) h.2.2.2.1 s hs
    · exact zY T (q := r) h.2.2.2.2 s hs
  | .both q r, h => zY T (q := q) h.2.1
  | .first _ q, h => zY T (q := q) h.2
  | .group a b n s q, h => fun x hx => by
    obtain ⟨ha, _, ⟨g, hg, rfl, rfl⟩, _, _, hq⟩ := h;have hx' : x ∈ [a, ("n" : Str) ++ g, ("s" : Str) ++ g] := hx;simp only [List.mem_cons, List.not_mem_nil, or_false] at hx';rcases hx' with rfl | rfl | rfl
    · exact zY T (q := q) hq _ ha
    · exact (z1m g hg).1
    · exact (z1m g hg).2.1
  | .sort _ q, h => zY T (q := q) h.2
end
noncomputable def yD (th : Str → List Str) (tr : Str → List (List Int)) (H : Hp) (v : V) (q : Qn) : Prop := ∃ (p : Addr) (qv : V) (hp rp : Addr) (rs : List (Addr × List Int)), v = .ref p ∧ H p = some (.tup [qv, .str (zA q), .ref hp, .ref rp]) ∧ QAt H q qv ∧
  H hp = some (.lst ((zc th q).map V.str)) ∧ RowsAt H rp rs ∧ rs.map (·.2) = rowsOf th tr q
theorem yD.same {th : Str → List Str} {tr : Str → List (List Int)} {H H' : Hp} {v : V} {q : Qn} (h : yD th tr H v q) (e : zF H H') : yD th tr H' v q := by
  obtain ⟨p, qv, hp, rp, rs, rfl, h1, h2, h3, h4, h5⟩ := h;exact ⟨p, qv, hp, rp, rs, rfl, e _ _ h1, h2.same e, e _ _ h3, h4.same e, h5⟩
end Qs

namespace L2
open PySem PySem.Spec PyProof.Rows
section
variable {P : Program} {w : World} {K : PySem.W.Frag} {mg : Str → Option Value} {base : Heap}
theorem Fun.okC {x qual : Str} {st : Stmt} {f : Addr} {fd : FuncData} {N ps : List Str} {k : Nat} {sp : Sp} (F : Fun K x qual st f fd) (S : FnScope N ps (zl st)) (len : ∀ vs H Q E, sp vs H Q E → vs.length = ps.length)
    (hbody : ∀ (A : Around) (outer : List Env) (s : Shared) (H : Hp) (vs : List V) (Q : VK) (E : XK), Room k (A.deeper (envOfC qual (zl st) s.heap.objs.size f fd.code)) → sp vs H Q E →
      ∃ t, PSs (z3d CX0 P w K mg base N qual (zl st) f fd.code A outer s H E).nox (yt st) t ∧ t { nx := fun _ H' => Q .non H', rt := Q } (start N vs) H) : FnOk P w K mg base CX0 (k + 1) f fd ps sp := by
  obtain ⟨oc, od, kV, doc, pm, an, cdv, ct, osl, rfl, lk, hcd⟩ := F.ex;refine z9q lk hcd S len fun A outer s H vs Q E hr hsp => ?_
  obtain ⟨t, h, q⟩ := hbody A outer s H vs Q E hr hsp;exact ⟨t, h.nox, q⟩
end
section
variable {X : Cx} {pins : List (Addr × Obj)} {σ : St} {H : Hp} {s : Shared}
theorem Inv.adopt {D : Addr} {o : HO} (I : Inv X pins σ H s) (hn : H D = none) (hL : D ≠ X.env.locals) (h1 : X.s₀.heap.objs.size ≤ D) (h2 : ∀ x c, X.env.cells.lookup x = some c → c ≠ D) (h3 : ∀ p ∈ X.pn ++ pins, p.1 ≠ D)
    (new : jy X.prog X.w (upd H D o) s.heap D o) : Inv X pins σ (upd H D o) s := by
  have r := I.step (h' := s.heap) (H' := upd H D o) (g' := s.gens) (t' := s.toks) (d' := s.drawn) (ch := [D]) (fun b hb => ?_) (fun b o _ _ _ e _ => e) (fun b o _ _ _ e _ => ⟨o.slots, e⟩)
    (fun b o hc e n => by rw [zt (by simpa using hc)]; exact n) (fun b o _ e => ⟨o, e⟩) (fun b xs e => by rw [zt (zr e hn)]; exact e) (fun b o u e => by rw [zt (zr e hn)]; exact e)
    (fun b ps e => ⟨#[], by rw [zt (zr e hn), e]; simp⟩) (fun m hm => hm) (fun b u e => ?_) I.bare
  · exact r
  · have e : b = D := by simpa using hb
    subst e;exact ⟨.inr h1, hL, h2, h3⟩
  · by_cases hb : b = D
    · subst hb; rw [zm] at e; cases e; exact new
    · rw [zt hb] at e;exact (I.hok b u e).stay (fun c v _ q => q) (fun c q => by rw [zt (zr q hn)]; exact q) fun c xs q => by rw [zt (zr q hn)]; exact q
end
noncomputable def z30 (H : Hp) (T : Addr) (lp : Pos) (q : Str) (c : Addr) : Prop :=
  H T = some (.tbl #[rawInt lp.line, rawInt lp.col, .ref c]) ∧ ∃ oc vs t, H c = some (.frz oc (.own 0)) ∧ oc.data = .fields vs ∧ vs[1]? = some (.str q t)
noncomputable def y0 (H : Hp) (T : Addr) (lp : Pos) (q : Str) : Prop := H T = some (.tbl #[]) ∨ ∃ c, z30 H T lp q c
theorem y0.ne {H : Hp} {T a : Addr} {lp : Pos} {q : Str} {u : HO} (h : y0 H T lp q) (e : H a = some u) (hu : ∀ ps, u ≠ .tbl ps) : a ≠ T := by
  rintro rfl;rcases h with h | ⟨c, h, _⟩
  · rw [h] at e; cases e; exact hu _ rfl
  · rw [h] at e; cases e; exact hu _ rfl
theorem y0.same {H H' : Hp} {T : Addr} {lp : Pos} {q : Str} (h : y0 H T lp q) (k : zF H H') : y0 H' T lp q := by
  rcases h with h | ⟨c, h, oc, vs, t, h2, h3⟩
  · exact .inl (k _ _ h)
  · exact .inr ⟨c, k _ _ h, oc, vs, t, k _ _ h2, h3⟩
theorem z30.rec {P : Program} {w : World} {H : Hp} {h : Heap} {T : Addr} {lp : Pos} {q : Str} {c : Addr} (x : z30 H T lp q c) (ok : HOk P w H h) : h.CodeRec (.ref c) q := by
  obtain ⟨_, oc, vs, t, h2, h3, h4⟩ := x;obtain ⟨e, _⟩ := ok c _ h2;exact ⟨c, oc, vs, t, rfl, e, h3, h4⟩
section
variable {X : Cx} {pins : List (Addr × Obj)} {σ : St} {H : Hp} {s : Shared} {A : Around} {E : Value → Shared → Prop}
noncomputable abbrev z2b (X : Cx) (params : Arguments) (body : Expr) (scope : Scope) (pm : Value) (c : Addr) (ct : Value) : Obj :=
  PySem.W.kla_obj "<lambda>" (X.env.qual ++ "<lambda>") params body scope (yB X.env scope.names []) pm c ct
theorem z5e {T c : Addr} {params : Arguments} {body : Expr} {scope : Scope} {lp : Pos} {Q : Value → Shared → Prop} (I : Inv X pins σ H s) (hc : X.env.code = .ref c) (C : PySem.W.CodeHd X.base c T) (B : X.base.BuiltinsAt X.mg T)
    (hL : y0 H T lp (X.env.qual ++ "<lambda>")) (hdef : defaultsOf params X.env = ([], [])) (clo : ∀ y ∈ scope.names, y.2 = .free → X.env.kindOf y.1 = some .cell ∨ X.env.kindOf y.1 = some .free)
    (h : ∀ f c' ct pm H' s', Kp T H H' → z30 H' T lp (X.env.qual ++ "<lambda>") c' → Inv X (pins ++ [(f, z2b X params body scope pm c' ct)]) σ H' s' → Q (.ref f) s') :
    wpAny (model X.prog X.w) A (eval (.Lambda params body scope lp) X.env) Q E s := by
  have clo' : ∀ y ∈ scope.names, y.2 = .free → ∃ c, X.env.cells.lookup y.1 = some c := fun y hy hk => I.ok.has y.1 (clo y hy hk)
  have hg : s.heap.Ns mainGlobals X.mg := by
    obtain ⟨o, es, ep, e, r⟩ := I.mod.glob;exact ⟨o, es, ep, I.bk _ _ e, r⟩
  have B' : s.heap.BuiltinsAt X.mg T := by
    obtain ⟨bm, o, b1, b2, b3, b4, b5, b6⟩ := B;exact ⟨bm, o, b1, b2, b3, b4, I.bk _ _ b5, b6⟩
  refine PySem.W.kla_eval hdef ?_;rcases hL with hT | ⟨c', hT, oc, vs, t, h2, h3, h4⟩
  · have hP : s.heap.get? T = some (PySem.W.tabObj #[]) := I.hok T _ hT;have hgT : mainGlobals ≠ T := fun z => by
      obtain ⟨o, es, ep, e, r⟩ := I.mod.glob;have := (I.bs _ _ e).2;rw [z, hT] at this;cases this
    refine PySem.W.kla_makeFunction (ps := #[]) (ky clo') I.ok.glob hg hc (C.keeps I.bk) hP trivial rfl hgT B' fun c' ct h' tk hx hge hlt hrec htb => ?_
    obtain ⟨c2, oc, vs, t, e2, hoc, hd, hv⟩ := hrec;cases e2;have nc : H c' = none := I.hok.fresh hge;have ncT : c' ≠ T := fun z => by rw [z, hT] at nc; cases nc
    have htb' : h'.get? T = some (PySem.W.tabObj #[rawInt lp.line, rawInt lp.col, .ref c']) := by simpa using htb
    have ne : ∀ b u, H b = some u → b ≠ c' := fun b u e => zr e nc
    have up : ∀ b o, b ≠ T → s.heap.get? b = some o → (h'.push (z2b X params body scope ((X.mg "__name__").getD .none) c' ct)).get? b = some o := fun b o n e => Heap.get?_push_of_some _ (hx b o n e)
    have at1 : ∀ b, b ≠ T → b ≠ c' → upd (upd H c' (.frz oc (.own 0))) T (.tbl #[rawInt lp.line, rawInt lp.col, .ref c']) b = H b := fun b n1 n2 => by rw [zt n1, zt n2]
    have nT : ∀ b u, H b = some u → (∀ ps, u ≠ .tbl ps) → b ≠ T := fun b u e hu z => by rw [z, hT] at e; cases e; exact hu _ rfl
    have I1 : Inv X pins σ (upd (upd H c' (.frz oc (.own 0))) T (.tbl #[rawInt lp.line, rawInt lp.col, .ref c'])) { s with heap := h'.push (z2b X params body scope ((X.mg "__name__").getD .none) c' ct), toks := tk } := by
      refine I.un ⟨fun b o e n _ _ => up b o (fun z => by rw [z, hT] at n; cases n) e, fun b o e n _ _ => ⟨o.slots, up b o (fun z => by rw [z, hT] at n; cases n) e⟩, fun b o e n _ => ?_, fun b o e _ => ?_, fun b xs e => ?_, fun b o u e => ?_, fun b ps e => ?_⟩ fun b u e => ?_
      · rw [at1 b (fun z => by rw [z, hT] at n; cases n) (Nat.ne_of_lt (Nat.lt_of_lt_of_le (Heap.lt_size e) hge))];exact n
      · by_cases hb : b = T
        · exact ⟨_, Heap.get?_push_of_some _ (hb ▸ htb')⟩
        · exact ⟨o, up b o hb e⟩
      · rw [at1 b (nT b _ e fun ps z => by cases z) (ne b _ e)]; exact e
      · rw [at1 b (nT b _ e fun ps z => by cases z) (ne b _ e)]; exact e
      · by_cases hb : b = T
        · rw [hb, hT] at e;cases e;rw [hb];exact ⟨#[rawInt lp.line, rawInt lp.col, .ref c'], by rw [zm]; simp⟩
        · exact ⟨#[], by rw [at1 b hb (ne b _ e), e]; simp⟩
      · by_cases hb : b = T
        · rw [hb] at e ⊢;rw [zm] at e;cases e;exact Heap.get?_push_of_some _ htb'
        · by_cases hb2 : b = c'
          · rw [hb2] at e ⊢;rw [zt ncT, zm] at e;cases e;exact ⟨Heap.get?_push_of_some _ hoc, oc, Heap.get?_push_of_some _ hoc⟩
          · rw [at1 b hb hb2] at e;refine (I.hok b u e).stay (fun d v hd q => up d v ?_ q) (fun d q => ?_) fun d xs q => ?_
            · rcases hd with hd | hd
              · rw [hd]; exact hb
              · exact nT d _ hd fun ps z => by cases z
            · rw [at1 d (nT d _ q fun ps z => by cases z) (ne d _ q)]; exact q
            · rw [at1 d (nT d _ q fun ps z => by cases z) (ne d _ q)]; exact q
    have hsz : s.heap.objs.size ≤ h'.objs.size := Nat.le_of_lt (Nat.lt_of_le_of_lt hge hlt);have hTs : T < s.heap.objs.size := Heap.lt_size hP;refine h h'.objs.size c' ct ((X.mg "__name__").getD .none) _ _ (fun b o n e => by rw [at1 b n (ne b _ e)]; exact e) ⟨zm, oc, vs, t, by rw [zt ncT, zm], hd, hv⟩ (I1.pins_of fun p hp => ?_);rcases List.mem_append.mp hp with hp | hp
    · exact I1.pin p (List.mem_append_right _ hp)
    · rw [List.mem_singleton.mp hp];refine ⟨Heap.get?_push_size _ rfl, ?_, Nat.ne_of_gt (Nat.lt_of_lt_of_le I.lt hsz), I.nofs hsz, fun v z => by cases z⟩
      show upd (upd H c' (.frz oc (.own 0))) T (.tbl #[rawInt lp.line, rawInt lp.col, .ref c']) h'.objs.size = none
      rw [at1 _ (Nat.ne_of_gt (Nat.lt_of_lt_of_le hTs hsz)) (Nat.ne_of_gt hlt)];exact I.hok.fresh hsz
  · have hP : s.heap.get? T = some (PySem.W.tabObj #[rawInt lp.line, rawInt lp.col, .ref c']) := I.hok T _ hT;refine PySem.W.kla_makeFunctionHit (ps := #[rawInt lp.line, rawInt lp.col, .ref c']) (cv := .ref c') (ky clo') I.ok.glob hg hc (C.keeps I.bk) hP (by simp [TriplesOk, rawInt]) (by simp [codeAmong, rawInt]) B' fun ct h' tk hk hsz => ?_
    have I1 : Inv X pins σ H { s with heap := h'.push (z2b X params body scope ((X.mg "__name__").getD .none) c' ct), toks := tk } := I.kept fun b o e => Heap.get?_push_of_some _ (hk b o e)
    refine h h'.objs.size c' ct ((X.mg "__name__").getD .none) H _ Kp.refl ⟨hT, oc, vs, t, h2, h3, h4⟩ (I1.pins_of fun p hp => ?_);rcases List.mem_append.mp hp with hp | hp
    · exact I1.pin p (List.mem_append_right _ hp)
    · rw [List.mem_singleton.mp hp];exact ⟨Heap.get?_push_size _ rfl, I.hok.fresh hsz, Nat.ne_of_gt (Nat.lt_of_lt_of_le I.lt hsz), I.nofs hsz, fun v z => by cases z⟩
end
noncomputable abbrev z6L (X : Cx) (A : Around) (scope : Scope) (N : List Str) (f : Addr) (cd : Value) (s : Shared) (H : Hp) : Cx :=
  { prog := X.prog, w := X.w, K := X.K, mg := X.mg, base := X.base, A := A.deeper (PySem.W.envX (X.env.qual ++ "<lambda>") scope s.heap.objs.size f cd (yB X.env scope.names [])), N := N, s₀ := s, H₀ := H,
    env := PySem.W.envX (X.env.qual ++ "<lambda>") scope s.heap.objs.size f cd (yB X.env scope.names []), outer := X.stack,
    stack := PySem.W.envX (X.env.qual ++ "<lambda>") scope s.heap.objs.size f cd (yB X.env scope.names []) :: X.stack, ex := [], fn := fun _ => false, calm := true, pn := [], xe := fun _ _ => False }
section
variable {X : Cx} {pins : List (Addr × Obj)} {σ : St} {H : Hp} {s : Shared} {A : Around} {scope : Scope} {x : Str} {fr : List Str} {ix : List Nat}
theorem z6R {f : Addr} {cd : Value} {v : V} {u : Value} {h1 : Heap} {tk : Nat} (I : Inv X pins σ H s) (S : CompSc X scope x fr ix) (hxl : scope.names.lookup x = some .local) (hnc : ∀ y ∈ scope.names, y.2 ≠ .cell) (hA : A.frames = some X.stack) (hh : A.handled = none) (r : RelV v u)
    (hns : h1.Ns s.heap.objs.size (fun y => [(x, u)].reverse.lookup y)) (hk : ∀ b o, s.heap.get? b = some o → h1.get? b = some o) :
    Inv (z6L X A scope (x :: fr) f cd s H) [] (sub σ ix (some v)) H { s with heap := h1, toks := tk } := by
  have e0 := I.env0;have clo' : ∀ y ∈ scope.names, y.2 = .free → ∃ c, X.env.cells.lookup y.1 = some c := fun y hy hk => I.ok.has y.1 (S.clo y hy hk)
  have look : ∀ y c, (yB X.env scope.names []).lookup y = some c → X.env.cells.lookup y = some c := fun y c e => z0S scope.names [] clo' (fun y c e => by simp at e) y c e
  have noA : ∀ b : Addr, b ∉ (z6L X A scope (x :: fr) f cd s H).ex := fun b z => absurd (show b ∈ ([] : List Addr) from z) (by simp)
  refine ⟨⟨e0.mod, S.kind, rfl, rfl, Nat.le_refl _, fun y z c h1 h2 => I.ok.inj y z c (look y c h1) (look z c h2), fun y hy => ?_, fun y c z _ => absurd z Bool.false_ne_true, fun _ => hh, Around.frames_deeper hA, .inr ⟨rfl, rfl⟩, fun b z => absurd z (noA b), e0.bs, e0.bsz, fun b _ _ => noA b, fun b z => absurd z (noA b), e0.funs, e0.frf⟩,
    rfl, e0.bare, Un.kept hk, ⟨_, hns, fun i y v' h1 h2 h3 => ?_⟩, fun y c h => ?_, I.hok.fresh (Nat.le_refl _), fun y c h => I.freeC y c (look y c h), fun p hp => absurd (show p ∈ ([] : List (Addr × Obj)) from hp) (by simp), I.hok.kept hk, ?_⟩
  · have hy : scope.names.lookup y = some .cell ∨ scope.names.lookup y = some .free := hy;rcases hy with hy | hy
    · exact absurd rfl (hnc _ (PySem.mem_of_lookup hy))
    · exact z1s scope.names [] y (.inl (PySem.mem_of_lookup hy))
  · cases i with
    | zero =>
      have e1 : x = y := Option.some.inj h1;have e2 : some v = some v' := Option.some.inj h2;cases e2;subst e1;exact ⟨u, r, .inl ⟨hxl, by simp⟩⟩
    | succ k =>
      have h1' : fr[k]? = some y := h1;obtain ⟨j, hj, hN, hf⟩ := S.free k y h1';have h2' : (ix.map fun j => (σ[j]?).getD none)[k]? = some (some v') := h2;rw [List.getElem?_map, hj] at h2';have hσ : (σ[j]?).getD none = some v' := Option.some.inj h2';have hσ' : σ[j]? = some (some v') := by
        cases q : σ[j]? with
        | none => rw [q] at hσ; cases hσ
        | some o => rw [q] at hσ; exact congrArg some hσ
      have hck := S.clo (y, .free) (PySem.mem_of_lookup hf) rfl;obtain ⟨m, hn, hl⟩ := I.loc;obtain ⟨u', ru, lk⟩ := hl j y v' hN hσ' (by
        rcases hck with q | q
        · exact .inr (.inl q)
        · exact .inr (.inr q))
      refine ⟨u', ru, .inr ⟨.inr hf, ?_⟩⟩;obtain ⟨c, hc⟩ := z1s (env := X.env) scope.names [] y (.inl (PySem.mem_of_lookup hf));refine ⟨c, hc, ?_⟩;rcases lk with ⟨q, _⟩ | ⟨_, c', e', z⟩
      · have q' : X.env.kindOf y = some .local := q;rcases hck with z | z
        · rw [q'] at z; cases z
        · rw [q'] at z; cases z
      · rw [look y c hc] at e';cases e';exact z.keeps hk
  · obtain ⟨w, z⟩ := I.cell y c (look y c h);exact ⟨w, z.keeps hk⟩
  · show (sub σ ix (some v)).length = (x :: fr).length
    unfold sub;rw [List.length_cons, List.length_map, List.length_cons, S.len]
theorem z8I {f c : Addr} {params : Arguments} {body : Expr} {pm ct u : Value} {v : V} {tb : TE} {Q : VK} {E : Value → Shared → Prop} (I : Inv X pins σ H s) (hf : (f, z2b X params body scope pm c ct) ∈ pins) (hcd : s.heap.CodeRec (.ref c) (X.env.qual ++ "<lambda>"))
    (S : CompSc X scope x fr ix) (hxl : scope.names.lookup x = some .local) (hnc : ∀ y ∈ scope.names, y.2 ≠ .cell) (hco : scope.isCoroutine = false) (hgen : scope.isGenerator = false) (hA : A.frames = some X.stack) (hh : A.handled = none) (hroom : A.depth < recursionLimit)
    (hbind : bindArgs (PySem.W.kla_fn "<lambda>" (X.env.qual ++ "<lambda>") params body scope (yB X.env scope.names []) pm (.ref c) ct) ⟨[u], []⟩ = pure [(x, u)])
    (hb : ∀ A f cd s H, PE (z6L X A scope (x :: fr) f cd s H) body tb) (r : RelV v u) (h : tb (sub σ ix (some v)) H Q) : wpAny (model X.prog X.w) A (call (.ref f) [u]) (EP X pins σ Q) E s := by
  have lim : s.heap.NoLimit := I.nolimit;have body' : codeAny (model X.prog X.w) A (.call (.ref f) ⟨[u], []⟩) (fun r s' => ∃ w, r = .ok (.ret w) ∧ CE X.stack X.prog X.w H s Q w s') s := by
    refine PySem.W.kla_callFunE hroom (I.pin _ (List.mem_append_right _ hf)).1 rfl hco hgen rfl hcd ?_;rw [hbind];refine wpAny_pure (wpAny_newFunctionEnv hnc (fun y hy => ?_) (fun h1 hns hsb => ⟨?_, ?_⟩) S.kind)
    · rw [List.mem_singleton.mp hy]; exact hxl
    · exact lim.fresh _ hsb
    · have hk : ∀ b o, s.heap.get? b = some o → h1.get? b = some o := fun b o e => hsb.extBut b o (Nat.ne_of_lt (Heap.lt_size e)) (Heap.get?_push_of_some _ e)
      have I1 := z6R (f := f) (cd := .ref c) (tk := s.toks + 1) I S hxl hnc hA hh r hns hk
      show codeAny _ _ (.expr body (PySem.W.envX (X.env.qual ++ "<lambda>") scope s.heap.objs.size f (.ref c) (yB X.env scope.names []))) _ _
      refine PySem.W.kla_codeExpr (wpAny_mono (hb A f (.ref c) s H [] _ _ H Q I1 h) (fun w s' hq => ?_) fun _ _ z => z.elim);obtain ⟨y, H', J, ry, q⟩ := hq;exact ⟨w, rfl, y, H', J.os, J.bare, J.base, J.hok, ry, q⟩
  refine wpAny_call (codeAny_mono body' fun r s' hq => ?_);obtain ⟨w, rfl, hq⟩ := hq;exact I.after hq
end
theorem z3R {M : Model} {A : Around} {E : Value → Shared → Prop} {vs : List Value} {body : Value → PUnit → Sem (ForInStep PUnit)} {J : List Value → Shared → Prop}
    (hb : ∀ i x ks s, vs[i]? = some x → ks.length = i → J ks s → wpAny M A (body x ⟨⟩) (fun r s' => r = .yield ⟨⟩ ∧ ∃ k, J (ks ++ [k]) s') E s) :
    ∀ (r ks : List Value) (s : Shared), (∀ j x, r[j]? = some x → vs[ks.length + j]? = some x) → J ks s → wpAny M A (forIn r PUnit.unit body) (fun _ s' => ∃ ks', ks'.length = ks.length + r.length ∧ J ks' s') E s
  | [], ks, s, _, hJ => by
    rw [List.forIn_nil];exact wpAny_pure ⟨ks, by simp, hJ⟩
  | x :: r, ks, s, hr, hJ => by
    rw [List.forIn_cons];refine wpAny_bind (wpAny_mono (hb ks.length x ks s (hr 0 x rfl) rfl hJ) (fun q s' hq => ?_) fun _ _ x => x);obtain ⟨rfl, k, h2⟩ := hq
    show wpAny M A (forIn r PUnit.unit body) _ E s'
    refine wpAny_mono (z3R hb r (ks ++ [k]) s' (fun j y hj => ?_) h2) (fun _ s2 ⟨ks', e, q⟩ => ⟨ks', ?_, q⟩) fun _ _ x => x
    · rw [List.length_append, List.length_singleton, Nat.add_assoc, Nat.add_comm 1 j];exact hr (j + 1) y hj
    · rw [e, List.length_append, List.length_cons, List.length_cons, List.length_nil];omega
section
variable {X : Cx} {pins : List (Addr × Obj)} {σ : St} {H : Hp} {s : Shared}
theorem z6f {xs : List V} {vs : List Value} (rv : zP xs vs) {i : Nat} (h : i < xs.length) : RelV (xs.getD i .non) (vs.getD i Value.none) := by
  obtain ⟨u, e, r⟩ := rv.get (List.getElem?_eq_getElem h);rw [List.getD_eq_getElem?_getD, List.getElem?_eq_getElem h, List.getD_eq_getElem?_getD, e];exact r
theorem z43 {xs : List V} {vs : List Value} (rv : zP xs vs) : ∀ {js : List Nat}, (∀ j ∈ js, j < xs.length) → zP (js.map fun i => xs.getD i .non) (js.map fun i => vs.getD i Value.none)
  | [], _ => .nil
  | j :: js, h => .cons (z6f rv (h j List.mem_cons_self)) (z43 rv fun m hm => h m (List.mem_cons_of_mem _ hm))
theorem z5L {f l : Addr} {vs : List Value} {xs : List V} {kz : List Int} {E : Value → Shared → Prop} {Q : Value → Shared → Prop} (I : Inv X pins σ H s) (hl : s.heap.IsList l vs.toArray) (rv : zP xs vs) (h64 : vs.length < 64) (hkz : kz.length = vs.length)
    (hc : ∀ (i : Nat) (u : Value) (pl : List (Addr × Obj)) (s' : Shared), vs[i]? = some u → Inv X (pins ++ pl) σ H s' →
      wpAny (model X.prog X.w) X.A.in1.in1 (call (.ref f) [u]) (fun w s2 => (∃ t, w = .int (kz.getD i 0) t) ∧ Inv X (pins ++ pl) σ H s2) (fun _ _ => False) s')
    (h : ∀ (D : Addr) (is : List Nat) (s' : Shared), H D = none → is.Perm (List.range vs.length) → is.Pairwise (Rk fun i => kz.getD i 0) → Inv X pins σ (upd H D (.lst (is.map fun i => xs.getD i .non))) s' → Q (.ref D) s') :
    wpAny (model X.prog X.w) X.A (call (.builtin "sorted") [.ref l] [(Str.ofString "key", .ref f)]) Q E s := by
  have hlen := rv.length;refine call_function_entry_kw kind_sorted plain_sorted entry_sorted (ksk_s1 _ _) ?_;unfold Builtin.«sorted»;refine wpAny_bind (m := checkCount "sorted" 1 1 _) (wpAny_pure ?_);refine wpAny_bind (collect_list hl ?_ (by rw [sizeLine_eq]; omega));refine wpAny_bind (wpAny_newList ?_ (by rw [sizeLine_eq]; omega));obtain ⟨h1, eh1⟩ : ∃ h1, (s.heap.push (seqObj "list" #[] 0)).update s.heap.objs.size (Obj.mapSeq (· ++ vs.toArray)) = h1 := ⟨_, rfl⟩
  have kp1 : ∀ b o, s.heap.get? b = some o → h1.get? b = some o := fun b o e => by
    have hb := Heap.lt_size e;rw [← eh1, Heap.get?_update_ne _ _ _ _ (Nat.ne_of_lt hb)];exact Heap.get?_push_of_some _ e
  have sz1 : s.heap.objs.size ≤ h1.objs.size := by rw [← eh1, Heap.size_update, Heap.size_push]; omega
  rw [eh1];have hoL : (h1.push (seqObj "list" vs.toArray 0)).get? h1.objs.size = some (seqObj "list" vs.toArray 0) := Heap.get?_push_size _ rfl;generalize hD : h1.objs.size = D at hoL sz1 ⊢;have nD : H D = none := I.hok.fresh sz1;have DL : D ≠ X.env.locals := Nat.ne_of_gt (Nat.lt_of_lt_of_le I.lt sz1);have Ds : X.s₀.heap.objs.size ≤ D := Nat.le_trans I.sz sz1;have Dc : ∀ y c, X.env.cells.lookup y = some c → c ≠ D := fun y c e => by
    obtain ⟨v, q⟩ := I.cell y c e;exact Nat.ne_of_lt (Nat.lt_of_lt_of_le q.lt sz1)
  have Dp : ∀ p ∈ X.pn ++ pins, p.1 ≠ D := fun p hp => Nat.ne_of_lt (Nat.lt_of_lt_of_le (Heap.lt_size (I.pin p hp).1) sz1)
  refine wpAny_bind (wpAny_holding (wpAny_call_entry_kw slot_list_sort ⟨_, hoL, rfl⟩ entry_list_sort ?body (ksk_l1 _ _)))
  case body =>
  show wpAny (model X.prog X.w) X.A.in1.in1 (Builtin.«list.sort» ⟨[.ref D], [(Str.ofString "key", .ref f)]⟩) _ _ _
  rw [ksk_t1];unfold ksk_tree;refine wpAny_bind (listItems_at hoL rfl ?_);refine wpAny_bind (listUpdate_at hoL rfl ?_ (by rw [List.size_toArray, sizeLine_eq]; omega) (Nat.zero_le _));obtain ⟨e1, ho1⟩ : ∃ e1, ((h1.push (seqObj "list" vs.toArray 0)).update D (Obj.mapSeq fun _ => (#[] : Array Value))).get? D = some (seqObj "list" #[] e1) := ⟨_, get?_update_seq hoL fun _ => #[]⟩
  obtain ⟨h2, eh2⟩ : ∃ h2, (h1.push (seqObj "list" vs.toArray 0)).update D (Obj.mapSeq fun _ => (#[] : Array Value)) = h2 := ⟨_, rfl⟩
  have kp2 : ∀ b o, s.heap.get? b = some o → h2.get? b = some o := fun b o e => by
    rw [← eh2, Heap.get?_update_ne _ _ _ _ (Nat.ne_of_lt (Nat.lt_of_lt_of_le (Heap.lt_size e) sz1))];exact Heap.get?_push_of_some _ (kp1 b o e)
  rw [eh2] at ho1 ⊢;refine wpAny_bind (seqEpoch_at ho1 rfl ?_);refine wpAny_bind (wpAny_newTuple ?_ (by show vs.length ≤ _; rw [sizeLine_eq]; omega));refine wpAny_bind (wpAny_newList ?_ (Nat.zero_le _));refine wpAny_holding ?_;obtain ⟨h3, eh3⟩ : ∃ h3, (h2.push (seqObj "tuple" vs.toArray 0)).push (seqObj "list" #[] 0) = h3 := ⟨_, rfl⟩
  obtain ⟨kS, ekS⟩ : ∃ kS, (h2.push (seqObj "tuple" vs.toArray 0)).objs.size = kS := ⟨_, rfl⟩
  have kp3 : ∀ b o, h2.get? b = some o → h3.get? b = some o := fun b o e => by
    rw [← eh3]; exact Heap.get?_push_of_some _ (Heap.get?_push_of_some _ e)
  have hoK : h3.get? kS = some (seqObj "list" #[] 0) := by rw [← eh3, ← ekS]; exact Heap.get?_push_size _ rfl
  have hDk : D < kS := by rw [← ekS, Heap.size_push]; exact Nat.lt_succ_of_lt (Heap.lt_size ho1)
  have szk : s.heap.objs.size ≤ kS := Nat.le_trans sz1 (Nat.le_of_lt hDk);have nk : H kS = none := I.hok.fresh szk;have kL : kS ≠ X.env.locals := Nat.ne_of_gt (Nat.lt_of_lt_of_le I.lt szk);have ks0 : X.s₀.heap.objs.size ≤ kS := Nat.le_trans I.sz szk;have kc : ∀ y c, X.env.cells.lookup y = some c → c ≠ kS := fun y c e => by
    obtain ⟨v, q⟩ := I.cell y c e;exact Nat.ne_of_lt (Nat.lt_of_lt_of_le q.lt szk)
  have kpn : ∀ p ∈ X.pn ++ pins, p.1 ≠ kS := fun p hp => Nat.ne_of_lt (Nat.lt_of_lt_of_le (Heap.lt_size (I.pin p hp).1) szk)
  show wpAny (model X.prog X.w) X.A.in1.in1 (ksk_rest D (.ref f) false vs.toArray e1 (.ref (h2.push (seqObj "tuple" vs.toArray 0)).objs.size)) _ _ { s with heap := (h2.push (seqObj "tuple" vs.toArray 0)).push (seqObj "list" #[] 0) }
  rw [eh3, ekS];have Nf : ∀ {b : Addr}, s.heap.objs.size ≤ b → b ∉ X.fs := fun hb => I.nofs hb
  have I3 : Inv X (pins ++ [(kS, seqObj "list" ([] : List Value).toArray 0), (D, seqObj "list" #[] e1)]) σ H { s with heap := h3 } := (I.kept (t' := s.toks) fun b o e => kp3 b o (kp2 b o e)).pins_of fun p hp => by
    have I3 : Inv X pins σ H { s with heap := h3 } := I.kept (t' := s.toks) fun b o e => kp3 b o (kp2 b o e)
    rcases List.mem_append.mp hp with hp | hp
    · exact I3.pin p (List.mem_append_right _ hp)
    · rcases List.mem_cons.mp hp with rfl | hp
      · exact ⟨hoK, nk, kL, Nf szk, fun v z => by cases z⟩
      · rw [List.mem_singleton.mp hp];exact ⟨kp3 _ _ ho1, nD, DL, Nf sz1, fun v z => by cases z⟩
  unfold ksk_rest;refine wpAny_bind (wpAny_rule ?_)
  first
    | rw [List.forIn_toArray]
    | (rw [← Array.forIn_toList]; simp only [List.toList_toArray])
    | rw [← Array.forIn_toList]
  refine wpAny_bind (wpAny_mono (z3R (vs := vs) (J := fun ks s' => ks.length ≤ vs.length ∧ zP ((kz.take ks.length).map V.int) ks ∧ ∃ e, Inv X (pins ++ [(kS, seqObj "list" ks.toArray e), (D, seqObj "list" #[] e1)]) σ H s') (fun i x ks s' hx hi hJ => ?_) vs [] _ (fun j y hj => by simpa using hj) ⟨Nat.zero_le _, .nil, 0, I3⟩) (fun _ s' hq => ?_) fun _ _ x => x)
  · obtain ⟨hle, hv, e, J⟩ := hJ;have hilt : i < vs.length := (List.getElem?_eq_some_iff.mp hx).1;refine wpAny_bind (wpAny_attempt (wpAny_mono (hc i x _ s' hx J) (fun k s2 hk => ?_) fun _ _ hF => hF.elim));obtain ⟨⟨t, rfl⟩, J2⟩ := hk;have nk2 := (J2.pin (kS, seqObj "list" ks.toArray e) (by simp)).1;have s1 := Heap.SameBut.update s2.heap kS (Obj.mapSeq (·.push (Value.int (kz.getD i 0) t)));have ea : (List.toArray ks).push (Value.int (kz.getD i 0) t) = List.toArray (ks ++ [Value.int (kz.getD i 0) t]) := by simp
    obtain ⟨c2, hc2⟩ : ∃ c2, (s2.heap.update kS (Obj.mapSeq (·.push (Value.int (kz.getD i 0) t)))).get? kS = some (seqObj "list" (List.toArray (ks ++ [Value.int (kz.getD i 0) t])) c2) := ⟨_, by rw [← ea]; exact get?_update_seq nk2 (·.push (Value.int (kz.getD i 0) t))⟩
    try dsimp only
    refine wpAny_bind (listUpdate_at nk2 rfl ?_ (by rw [List.size_toArray, sizeLine_eq]; omega) (Nat.le_trans (Nat.le_of_eq (Array.size_push ..)) (by rw [List.size_toArray, sizeLine_eq]; omega)));refine wpAny_pure ⟨rfl, Value.int (kz.getD i 0) t, by rw [List.length_append, List.length_singleton]; omega, ?_, c2, ?_⟩
    · rw [List.length_append, List.length_singleton, hi, List.take_add_one, List.getElem?_eq_getElem (by omega), List.map_append];rw [hi] at hv;refine hv.append (.cons ⟨t, ?_⟩ .nil);rw [List.getD_eq_getElem?_getD, List.getElem?_eq_getElem (by omega)]
      rfl
    · have J3 : Inv X (pins ++ [(D, seqObj "list" #[] e1)]) σ H s2 := J2.pins_of fun p hp => by
        rcases List.mem_append.mp hp with hp | hp
        · exact J2.pin p (List.mem_append_right _ (List.mem_append_left _ hp))
        · exact J2.pin p (List.mem_append_right _ (List.mem_append_right _ (List.mem_cons_of_mem _ hp)))
      have J4 : Inv X (pins ++ [(D, seqObj "list" #[] e1)]) σ H { s2 with heap := s2.heap.update kS (Obj.mapSeq (·.push (Value.int (kz.getD i 0) t))) } := J3.turned (it := kS) (t' := s2.toks) (fun b o hb q => (s1.2 b hb).trans q) nk kL (.inr ks0) kc fun p hp => by
        rcases List.mem_append.mp hp with hp | hp
        · exact kpn p (List.mem_append_left _ hp)
        · rcases List.mem_append.mp hp with hp | hp
          · exact kpn p (List.mem_append_right _ hp)
          · rw [List.mem_singleton.mp hp];exact Nat.ne_of_lt hDk
      refine J4.pins_of fun p hp => ?_
      rcases List.mem_append.mp hp with hp | hp
      · exact J4.pin p (List.mem_append_right _ (List.mem_append_left _ hp))
      · rcases List.mem_cons.mp hp with rfl | hp
        · exact ⟨hc2, nk, kL, Nf szk, fun v z => by cases z⟩
        · exact J4.pin p (List.mem_append_right _ (List.mem_append_right _ hp))
  · obtain ⟨ks, ekl, hle, hv, e, J⟩ := hq;have ekl' : ks.length = vs.length := by simpa using ekl
    rw [ekl', List.take_of_length_le (Nat.le_of_eq hkz)] at hv
    try dsimp only
    have ok := (J.pin (kS, seqObj "list" ks.toArray e) (by simp)).1;have oD := (J.pin (D, seqObj "list" #[] e1) (by simp)).1;refine wpAny_bind (listItems_at ok rfl ?_);have fin : ∀ (is : List Nat) (st : SortSt), is.Perm (List.range vs.length) → is.Pairwise (Rk fun i => kz.getD i 0) → (arrOf st).map (·.2) = (is.map fun i => vs.getD i Value.none).toArray → failedOf st = none →
        wpAny (model X.prog X.w) X.A.in1.in1 (ksk_tail D false e1 (.ref kS) st) (fun fin s' => ∃ v, fin = .done (.ret v) ∧ wpAny (model X.prog X.w) X.A.in1 (ret (.ref D)) (fun fin s' => ∃ v, fin = .done (.ret v) ∧ Q v s') E s') E s' := by
      intro is st pm pw hout hf;have hsz : (is.map fun i => vs.getD i Value.none).length = vs.length := by rw [List.length_map, pm.length_eq, List.length_range]
      have t1 := Heap.SameBut.update s'.heap kS (Obj.mapSeq fun _ => (#[] : Array Value));have oD2 : (s'.heap.update kS (Obj.mapSeq fun _ => (#[] : Array Value))).get? D = some (seqObj "list" #[] e1) := (t1.2 D (Nat.ne_of_lt hDk)).trans oD;have t2 := Heap.SameBut.update (s'.heap.update kS (Obj.mapSeq fun _ => (#[] : Array Value))) D (Obj.mapSeq fun _ => (is.map fun i => vs.getD i Value.none).toArray);obtain ⟨c3, hc3⟩ : ∃ c3, ((s'.heap.update kS (Obj.mapSeq fun _ => (#[] : Array Value))).update D (Obj.mapSeq fun _ => (is.map fun i => vs.getD i Value.none).toArray)).get? D = some (seqObj "list" (is.map fun i => vs.getD i Value.none).toArray c3) := ⟨_, get?_update_seq oD2 fun _ => (is.map fun i => vs.getD i Value.none).toArray⟩
      unfold ksk_tail
      try dsimp only
      rw [hout];refine wpAny_bind (listUpdate_at ok rfl ?_ (by rw [List.size_toArray, sizeLine_eq]; omega) (Nat.zero_le _));refine wpAny_bind (wpAny_letGo ?_);refine wpAny_bind (seqEpoch_at oD2 rfl ?_);refine wpAny_bind (listUpdate_at oD2 rfl ?_ (Nat.zero_le _) (Nat.le_trans (Nat.le_of_eq (by show (is.map fun i => vs.getD i Value.none).toArray.size = vs.length; rw [List.size_toArray, hsz])) (by rw [sizeLine_eq]; omega)));rw [hf];simp only [bne_self_eq_false, Bool.false_eq_true, if_false];refine wpAny_pure ⟨_, rfl, wpAny_pure ⟨_, rfl, ?_⟩⟩;have J0 : Inv X pins σ H s' := J.pins_of fun p hp => J.pin p (List.mem_append_right _ (List.mem_append_left _ hp))
      have J1 : Inv X pins σ H { s' with heap := s'.heap.update kS (Obj.mapSeq fun _ => (#[] : Array Value)) } := J0.turned (it := kS) (t' := s'.toks) (fun b o hb q => (t1.2 b hb).trans q) nk kL (.inr ks0) kc kpn;have J2 : Inv X pins σ H { s' with heap := (s'.heap.update kS (Obj.mapSeq fun _ => (#[] : Array Value))).update D (Obj.mapSeq fun _ => (is.map fun i => vs.getD i Value.none).toArray) } := Inv.turned (s := { s' with heap := s'.heap.update kS (Obj.mapSeq fun _ => (#[] : Array Value)) }) (it := D) J1 (t' := s'.toks) (fun b o hb q => (t2.2 b hb).trans q) nD DL (.inr Ds) Dc Dp;refine h D is _ nD pm pw (J2.adopt nD DL Ds Dc Dp ⟨?_, is.map fun i => vs.getD i Value.none, c3, z43 rv fun j hj => ?_, hc3⟩)
      · rw [List.length_map, pm.length_eq, List.length_range];exact zq (by omega)
      · rw [hlen];exact List.mem_range.mp (pm.mem_iff.mp hj)
    unfold ksk_end
    try dsimp only
    by_cases h2 : vs.toArray.size < 2
    · have hs' : vs.length < 2 := by simpa using h2
      rw [if_pos h2, if_pos h2];simp only [Bool.false_eq_true, if_false];refine wpAny_bind (wpAny_pure ?_);rw [StateT.run_pure];refine wpAny_bind (wpAny_pure ?_);refine fin (List.range vs.length) _ (List.Perm.refl _) ?_ ?_ rfl
      · exact z7E hs'
      · show (ks.toArray.zip vs.toArray).map (·.2) = _
        exact z3P hs' ekl'
    · have hs' : 2 ≤ vs.length := by simpa using h2
      rw [if_neg h2, if_neg h2, ksk_kind (keys := ks.toArray) (kz := kz) (by simpa using intsAre_of hv) (by simp; omega)];simp only [Bool.false_eq_true, if_false];refine wpAny_bind (wpAny_pure ?_);refine wpAny_bind (wpAny_mono (PySem.W.kat_run (κ := oneType') (Q := fun st' s2 => ∃ p : Array Nat, (arrOf st').map (·.2) = (p.toList.map fun i => vs.getD i Value.none).toArray ∧ failedOf st' = none ∧ s2 = s' ∧ p.toList.Perm (List.range vs.length) ∧ p.toList.Pairwise (Rk fun i => kz.getD i 0))
        (vs := vs) (ks := ks) (G := fun p s2 => s2 = s' ∧ p.toList.Perm (List.range vs.length) ∧ p.toList.Pairwise (Rk fun i => kz.getD i 0)) ekl' hs' h64 (fun p st' s2 a1 a2 a3 a4 => ⟨p, PySem.W.kat_snds ekl' a2, a3, a4⟩)
        (z5O (n := vs.length) (k := fun i => kz.getD i 0) (fun i j C hi hj hC => ?_) (jM (fun p hp => ⟨rfl, hp⟩) (z6u (by omega) _)))) ?_ fun _ _ e => e)
      · unfold PySem.W.kas_ask;have at' : ∀ m, m < vs.length → ∃ t, ks.getD m Value.none = .int (kz.getD m 0) t := fun m hm => by
          obtain ⟨u, eu, t, rfl⟩ := hv.get (i := m) (x := .int kz[m]) (by rw [List.getElem?_map, List.getElem?_eq_getElem (by omega)]; rfl);refine ⟨t, ?_⟩;rw [List.getD_eq_getElem?_getD, eu, List.getD_eq_getElem?_getD, List.getElem?_eq_getElem (by omega)]
          rfl
        obtain ⟨t, e1⟩ := at' i hi;obtain ⟨u, e2⟩ := at' j hj
        show wpAny (model X.prog X.w) X.A.in1.in1 (keyLt' oneType' (ks.getD i Value.none) (ks.getD j Value.none)) C (fun _ _ => False) s'
        rw [e1, e2];exact PySem.W.kat_lt_int hC
      · rintro ⟨⟨⟩, st'⟩ s2 ⟨p, e0, h4, rfl, pm, pw⟩;exact fin p.toList st' pm pw e0 h4
end
theorem y0.neL {K : PySem.W.Frag} {P : Program} {w : World} {H : Hp} {T a : Addr} {lp : Pos} {q : Str} {xs : List V} (h : y0 H T lp q) (e : Rd H a (.lst xs)) : a ≠ T := by
  rcases e with e | ⟨o, e⟩
  · exact h.ne e fun ps z => by cases z
  · exact h.ne e fun ps z => by cases z
noncomputable def z8f (T : Addr) (lp : Pos) (q : Str) (te : TE) (ix : List Nat) (tb : TE) : TE := fun σ H Q => te σ H fun x H1 => ∃ (l : Addr) (xs : List V) (kz : List Int), x = .ref l ∧ Rd H1 l (.lst xs) ∧ xs.length < 64 ∧ kz.length = xs.length ∧ y0 H1 T lp q ∧
  (∀ H2, Kp T H1 H2 → ∀ (i : Nat) v, xs[i]? = some v → tb (sub σ ix (some v)) H2 fun y H' => y = .int (kz.getD i 0) ∧ H' = H2) ∧
  ∀ (c : Addr) (H2 : Hp) (D : Addr) (is : List Nat), Kp T H1 H2 → z30 H2 T lp q c → H2 D = none → is.Perm (List.range xs.length) → is.Pairwise (Rk fun i => kz.getD i 0) → Q (.ref D) (upd H2 D (.lst (is.map fun i => xs.getD i .non)))
section
variable {X : Cx} {scope : Scope} {x : Str} {fr : List Str} {ix : List Nat} {e body : Expr} {te tb : TE} {params : Arguments} {lp kp p pos : Pos} {T c : Addr} {k : Nat}
theorem z6e (hcalm : X.calm = true) (hr : Room k X.A) (hg : Gl X "sorted") (hm : X.mg "sorted" = none) (he : PE X e te) (hc : X.env.code = .ref c) (C : PySem.W.CodeHd X.base c T) (B : X.base.BuiltinsAt X.mg T) (S : CompSc X scope x fr ix)
    (hb : ∀ A f cd s H, PE (z6L X A scope (x :: fr) f cd s H) body tb)
    (hxl : scope.names.lookup x = some .local := by rfl) (hnc : ∀ y ∈ scope.names, y.2 ≠ .cell := by decide +kernel) (hco : scope.isCoroutine = false := by rfl) (hgen : scope.isGenerator = false := by rfl) (hdef : defaultsOf params X.env = ([], []) := by rfl)
    (hbind : ∀ (pm ct u : Value) (c : Addr), bindArgs (PySem.W.kla_fn "<lambda>" (X.env.qual ++ "<lambda>") params body scope (yB X.env scope.names []) pm (.ref c) ct) ⟨[u], []⟩ = pure [(x, u)] := by intro _ _ _ _; rfl)
    (hs : starEach [e] X.env = [(false, eval e X.env)] := by rfl) :
    PE X (.Call (.Name "sorted" p) [e] [⟨some "key", .Lambda params body scope lp, kp⟩] pos) (z8f T lp (X.env.qual ++ "<lambda>") te ix tb) := by
  intro pins s σ H Q I h;refine wpAny_Call_Name_kw (z0N I hg hm PyProof.Rows.boot_sorted ?_ (by decide) (by decide));refine callWith_kw (he := by rw [hs]; rfl) (hplain := by rw [hs]; rfl) (by
    rw [hs];refine Calls.spliced_cons (thn (he pins s σ H _ I h) fun u s1 ⟨y, H1, I1, r1, l, xs, kz, ey, hq, h64, hkz, hL, hk, q⟩ => Calls.spliced_nil ?_);subst ey;cases r1;refine kws_cons ?_;refine z5e I1 hc C B hL hdef S.clo fun f c' ct pm H2 s2 kp2 lin I2 => ?_
    refine kws_nil ?_;have hq2 : Rd H2 l (.lst xs) := by
      have n := hL.neL (K := X.K) (P := X.prog) (w := X.w) hq;rcases hq with hq | ⟨o, hq⟩
      · exact .inl (kp2 _ _ n hq)
      · exact .inr ⟨o, kp2 _ _ n hq⟩
    obtain ⟨vs, rv, pl, hz⟩ := I2.list (.inl hq2);have hlen := rv.length;refine z5L (kz := kz) I2 pl.isList rv (by omega) (by omega) (fun i u pl' s3 hu J => ?_) fun D is s3 nD pm' pw J => ?_
    · have hi : i < xs.length := by
        have := (List.getElem?_eq_some_iff.mp hu).1;omega
      have ru := z6f rv hi;rw [List.getD_eq_getElem?_getD (l := vs), hu] at ru;refine wpAny_mono (z8I (A := X.A.in1.in1) (E := fun _ _ => False) J (List.mem_append_left _ (List.mem_append_right _ (List.mem_singleton.mpr rfl))) (lin.rec J.hok) S hxl hnc hco hgen (by exact J.ok.frames) (J.ok.hd hcalm) (by exact hr.depth) (hbind _ _ _ _) hb ru (hk H2 kp2 i _ (by rw [List.getD_eq_getElem?_getD, List.getElem?_eq_getElem hi]; rfl))) (fun w s4 hw => ?_) fun _ _ z => z
      obtain ⟨y, H', J4, ry, rfl, rfl⟩ := hw;obtain ⟨t, rfl⟩ := ry;exact ⟨⟨t, rfl⟩, J4⟩
    · refine ⟨.ref D, _, J.pins_of fun p hp => J.pin p (List.mem_append_right _ (List.mem_append_left _ hp)), rfl, q c' H2 D is kp2 lin nD (by rw [hlen]; exact pm') pw⟩)
end
end L2
namespace L2
open PySem PySem.Spec PyProof.Rows
noncomputable def codeTabIn (K : PySem.W.Frag) (T : Addr) : Bool := K.any fun p => PySem.W.codeHdIn K p.1 T
noncomputable def codeOf (K : PySem.W.Frag) (cd : Value) (T : Addr) : Bool := match cd with
  | .ref c => PySem.W.codeHdIn K c T
  | _ => false
theorem codeOf_ex {K : PySem.W.Frag} {cd : Value} {T : Addr} (h : codeOf K cd T = true) : ∃ c, cd = .ref c ∧ PySem.W.codeHdIn K c T = true := by
  unfold codeOf at h;split at h
  · exact ⟨_, rfl, h⟩
  · cases h
theorem z5y {K : PySem.W.Frag} {h : Heap} {T : Addr} (X : K.In h) (e : codeTabIn K T = true) : ∃ c, PySem.W.CodeHd h c T := by
  obtain ⟨p, _, hp⟩ := List.any_eq_true.mp e;exact ⟨p.1, PySem.W.codeHd_of_K X hp⟩
theorem z7m {P : Program} {w : World} {K : PySem.W.Frag} {mg mb : Str → Option Value} {CX : CXT} {k : Nat} {fa a : Addr} {fd : FuncData} {x : Str} {sp : Sp} {s₁ : Shared} {vs : List Value} {ns : List Int} {Ts : List Addr}
    (KX : K.In s₁.heap) (hns : s₁.heap.Ns mainGlobals mg) (hb : s₁.heap.Ns builtinsNs mb) (hbb : ∀ x : Str, x ≠ "__name__" → mb x = bootBuiltins x) (hlim : s₁.heap.NoLimit) (hg : s₁.gens = #[])
    (hbm : ∃ bm ob, mg "__builtins__" = some (.ref bm) ∧ bm ≠ builtinsNs ∧ s₁.heap.get? bm = some ob ∧ ob.cls = .type "module" ∧ ob.dict = some builtinsNs ∧ ob.data = .plain)
    (hT : ∀ T ∈ Ts, s₁.heap.get? T = some (PySem.W.tabObj #[])) (hTc : ∀ T ∈ Ts, isCodeTable s₁.heap T) (hTK : ∀ T ∈ Ts, K.lookup T = none)
    (ha : s₁.heap.get? a = some { cls := .type "list", data := .seq vs.toArray }) (hi : IntsAre vs ns) (hl : ns.length ≤ sizeLine) (hr : Room k callerA)
    (F : ∀ base : Heap, K.In base → base.Ns mainGlobals mg → (∀ T ∈ Ts, base.BuiltinsAt mg T) → FnOk P w K mg base CX k fa fd [x] sp) (hbind : ∀ (s : Shared) (u : Value), BindsTo s fd ⟨[u], []⟩ [(x, u)])
    (hsp : ∀ H : Hp, SqL K H a (ns.map V.int) → (∀ T ∈ Ts, H T = some (.tbl #[])) → sp [.ref a] H (fun v _ => v = .bl true) fun _ _ _ => False)
    (hCX : ∀ H e s', CX [] H s₁ (fun _ _ _ => False) e s' → False) :
    codeAny (model P w) callerA (.call (.ref fa) ⟨[.ref a], []⟩) (fun r s' => r = .ok (.ret (.bool true)) ∧ OldK s₁.heap s'.heap ∧ s'.os = s₁.os ∧ AllBare s'.gens) s₁ := by
  have rv := z44 hi;have lenV := hi.length;have aT : a ∉ Ts := fun z => by
    have := hT a z;rw [ha] at this;cases this
  have core : ∀ H : Hp, (∀ b, H b = none ∨ (b ∈ Ts ∧ H b = some (.tbl #[])) ∨ (b = a ∧ K.lookup a = none ∧ H b = some (.frz { cls := .type "list", data := .seq vs.toArray } (.lst (ns.map V.int))))) → SqL K H a (ns.map V.int) → (∀ T ∈ Ts, H T = some (.tbl #[])) →
      codeAny (model P w) callerA (.call (.ref fa) ⟨[.ref a], []⟩) (fun r s' => r = .ok (.ret (.bool true)) ∧ OldK s₁.heap s'.heap ∧ s'.os = s₁.os ∧ AllBare s'.gens) s₁ := by
    intro H hO hS hHT;have hok : HOk P w H s₁.heap := fun b u e => by
      rcases hO b with z | ⟨m, z⟩ | ⟨rfl, _, z⟩
      · rw [z] at e; cases e
      · rw [z] at e; cases e;exact hT b m
      · rw [z] at e; cases e;exact ⟨ha, by rw [List.length_map]; exact hl, vs, _, rv, ha⟩
    have base_of : ∀ {b : Addr} {o : Obj}, s₁.heap.get? b = some o → H b = none → (z3u s₁.heap H).get? b = some o := fun e n => z8L e n
    have noD : ∀ {b : Addr} {o : Obj}, s₁.heap.get? b = some o → (∀ xs n, o.data ≠ .seq xs n) → (∀ xs, o.data ≠ .fields xs) → H b = none := fun {b o} e d1 d2 => by
      rcases hO b with z | ⟨m, _⟩ | ⟨rfl, _, _⟩
      · exact z
      · have := hT b m;rw [e] at this; cases this;exact absurd rfl (d2 _)
      · rw [ha] at e; cases e;exact absurd rfl (d1 _ _)
    have noA : ∀ {b : Addr} {o : Obj} {es : Array DictEntry} {ep : Nat}, s₁.heap.get? b = some o → o.data = .dict es ep → H b = none := fun {b o es ep} e d => noD e (fun xs n z => by rw [d] at z; cases z) fun xs z => by rw [d] at z; cases z
    have nsK : ∀ {b : Addr} {m : Str → Option Value}, s₁.heap.Ns b m → (z3u s₁.heap H).Ns b m := fun {b m} ⟨o, es, ep, e, d, r⟩ => ⟨o, es, ep, base_of e (noA e d), d, r⟩
    have hKb : K.In (z3u s₁.heap H) := fun b o e => base_of (KX b o e) (by
      rcases hO b with z | ⟨m, _⟩ | ⟨rfl, z, _⟩
      · exact z
      · rw [hTK b m] at e; cases e
      · rw [z] at e; cases e)
    have hM : Mod K mg (z3u s₁.heap H) := ⟨hKb, nsK hns, ⟨mb, nsK hb, hbb⟩, let ⟨mc, h1, h2⟩ := hlim; ⟨mc, nsK h1, h2⟩⟩;have hB : ∀ T ∈ Ts, (z3u s₁.heap H).BuiltinsAt mg T := fun T m => by
      obtain ⟨bm, ob, b1, b2, b3, b4, b5, b6⟩ := hbm;refine ⟨bm, ob, b1, b2, fun z => ?_, fun z => ?_, base_of b3 (noD b3 (fun xs n q => by rw [b6] at q; cases q) fun xs q => by rw [b6] at q; cases q), b4, b5, b6⟩
      · obtain ⟨o, es, ep, e, d, _⟩ := hns;rw [z, e] at b3; cases b3;rw [b6] at d; cases d
      · have := hT T m;rw [← z, b3] at this; cases this;cases b6
    have e0 : Env0 P w K mg (z3u s₁.heap H) callerA [] s₁ H := ⟨rfl, hM, fun b o e => z9f e, Nat.le_of_eq (z7p _ _), trivial, fun b hb => absurd (show b ∈ ([] : List Addr) from hb) (by simp), hok, .of_eq hg⟩;refine codeAny_mono ((F _ hKb (nsK hns) hB).run callerA [] s₁ H ⟨[.ref a], []⟩ [.ref a] [.ref a] _ _ hr e0 (hbind s₁ (.ref a)) (.cons rfl .nil) (hsp H hS hHT)) fun r s' h => ?_
    cases r with
    | error e => exact (hCX H e s' h).elim
    | ok fl =>
      cases fl with
      | next => exact False.elim h
      | brk => exact False.elim h
      | cont => exact False.elim h
      | ret u =>
        obtain ⟨v, H', os, bare, un, hok', r', q⟩ := h;have q' : v = .bl true := q;subst q';obtain rfl : u = Value.bool true := r';have at' : ∀ b o, s₁.heap.get? b = some o → s'.heap.get? b = some o ∨ (b ∈ Ts ∧ o = PySem.W.tabObj #[] ∧ ∃ more, s'.heap.get? b = some (PySem.W.tabObj more)) := fun b o e => by
          rcases hO b with z | ⟨m, z⟩ | ⟨rfl, _, z⟩
          · exact .inl (un.keep b o e z (by intro z; exact absurd (show b ∈ ([] : List Addr) from z) (by simp)) (by simp))
          · obtain ⟨more, z2⟩ := un.tbls b _ z;have e2 : s'.heap.get? b = some (PySem.W.tabObj (#[] ++ more)) := hok' b _ z2;have e1 := hT b m;rw [e] at e1;exact .inr ⟨m, Option.some.inj e1, _, e2⟩
          · have z2 := un.frzs b _ _ z;obtain ⟨e2, _⟩ := hok' b _ z2;rw [ha] at e; cases e;exact .inl e2
        refine ⟨rfl, ⟨fun b o e => ?_, fun b o e => ?_⟩, os, bare⟩
        · rcases at' b o e with z | ⟨m, rfl, more, z⟩
          · exact .inl z
          · exact .inr (.inl ⟨hTc b m, rfl, #[], more, rfl, by rw [Array.empty_append]; exact z⟩)
        · rcases at' b o e with z | ⟨m, rfl, more, z⟩
          · exact ⟨_, z⟩
          · exact ⟨_, z⟩
  cases hk : K.lookup a with
  | some o =>
    have e := KX a o hk;rw [ha] at e;cases e;refine core (fun b => if b ∈ Ts then some (.tbl #[]) else none) (fun b => ?_) (.inr ⟨_, vs.toArray, _, hk, rfl, rfl, rfl, by rw [List.size_toArray, lenV]; exact hl, by simpa using rv⟩) fun T m => if_pos m
    by_cases m : b ∈ Ts
    · exact .inr (.inl ⟨m, if_pos m⟩)
    · exact .inl (if_neg m)
  | none =>
    refine core (fun b => if b ∈ Ts then some (.tbl #[]) else if b = a then some (.frz { cls := .type "list", data := .seq vs.toArray } (.lst (ns.map V.int))) else none) (fun b => ?_) (.inl (.inr ⟨{ cls := .type "list", data := .seq vs.toArray }, (if_neg aT).trans (if_pos rfl)⟩)) fun T m => if_pos m
    by_cases m : b ∈ Ts
    · exact .inr (.inl ⟨m, if_pos m⟩)
    · by_cases hb : b = a
      · exact .inr (.inr ⟨hb, hk, (if_neg m).trans (if_pos hb)⟩)
      · exact .inl ((if_neg m).trans (if_neg hb))
theorem walk_ofT {l : PySem.W.OpenLaw} {n k : Nat} {q : Program} {loose : List Str} {XP : (Str → Option Value) → Heap → Prop} {YP : World → Heap → Prop} {d : DefRec} {K : Params → PySem.W.Frag} {sp : World → Sp} {x : Str} {Ts : List Addr}
    (hn : l.most = some n) (hn2 : n ≤ sizeLine) (hdf : d.params.defaults = []) (hr : Room k callerA)
    (hY : ∀ (w : World) (h : Heap), YP w h → (K w.params).In h ∧ ∀ T ∈ Ts, h.get? T = some (PySem.W.tabObj #[]))
    (hTc : ∀ (w : World), ∀ T ∈ Ts, codeTabIn (K w.params) T = true) (hTK : ∀ (w : World), ∀ T ∈ Ts, (K w.params).lookup T = none)
    (F : ∀ (w : World) (mg : Str → Option Value) (fa : Addr) (h : Heap), (K w.params).In h → h.Ns mainGlobals mg → mg d.name = some (.ref fa) →
      ∃ fd : FuncData, (∀ (s : Shared) (u : Value), BindsTo s fd ⟨[u], []⟩ [(x, u)]) ∧
        ∀ base : Heap, (K w.params).In base → base.Ns mainGlobals mg → (∀ T ∈ Ts, base.BuiltinsAt mg T) → FnOk l.prog w (K w.params) mg base CX0 k fa fd [x] (sp w))
    (hsp : ∀ (w : World) (H : Hp) (a : Addr) (ns : List Int), ns.length ≤ n → SqL (K w.params) H a (ns.map V.int) → (∀ T ∈ Ts, H T = some (.tbl #[])) → sp w [.ref a] H (fun v _ => v = .bl true) fun _ _ _ => False) :
    PySem.W.WalkO q loose XP YP l.row.toRowW d [] (fun f vs => PySem.call f vs) := by
  refine Att.attach_call hn hdf fun w s₀ s₁ mg mb fa o pm cd doc a vs ns G Y ho hd hcd hmg hobj hints hlen hg => ?_
  obtain ⟨KX, hT⟩ := hY w _ Y;obtain ⟨fd, hb, hF⟩ := F w mg fa _ KX G.T.g hmg;exact z7m KX G.T.g G.T.b G.T.builtins G.T.nolimit hg G.T.bmain hT (fun T m => by
    obtain ⟨c, C⟩ := z5y KX (hTc w T m);exact (C.tab (hT T m)).isCodeTable) (hTK w) hobj hints (Nat.le_trans hlen hn2) hr hF hb (fun H hS hT => hsp w H a ns hlen hS hT) fun H e s' z => z
end L2

namespace L2
open PySem PySem.Spec PyProof.Rows
theorem z5o : ∀ {xs : List V} {us : List Value}, zP xs us → zP xs.reverse us.reverse
  | _, _, .nil => .nil
  | _, _, .cons r t => by rw [List.reverse_cons, List.reverse_cons]; exact (z5o t).append (.cons r .nil)
section
variable {prog : Program} {w : World} {A : Around} {E : Value → Shared → Prop} {s : Shared} {r : Addr}
theorem z4L : typeLookup (.type "list_reverseiterator") "__len__" = pure none := by rw [typeLookup_type, builtinLookup_eq_fast]; kernel_rfl
theorem z3o : typeLookup (.type "list_reverseiterator") "__length_hint__" = pure (some (.builtin "list_reverseiterator.__length_hint__")) := by rw [typeLookup_type, builtinLookup_eq_fast]; kernel_rfl
theorem z7R {Q : Bool → Shared → Prop} (hT : s.TypeIs (.ref r) "list_reverseiterator") (h : Q false s) : wpAny (model prog w) A (Builtin.List.listLengthHint (.ref r)) Q E s := by
  unfold Builtin.List.listLengthHint;refine wpAny_bind (wpAny_specialOf hT z4L ?_)
  wp_delta
  refine wpAny_ite_split (fun hab => absurd hab (by decide)) (fun _ => ?_);refine wpAny_bind (wpAny_specialOf hT z3o ?_);generalize hid : ("list_reverseiterator.__length_hint__" : String) = id0
  wp_delta
  rw [show splitId id0 = some ("list_reverseiterator", "__length_hint__") from by subst hid; decide +kernel];subst hid;refine wpAny_bind (wpAny_isInstance (T := "list_reverseiterator") (b := true) hT (by rw [isSubtype_type]; kernel_rfl) ?_);refine wpAny_ite_split (fun hab => absurd hab (by decide)) (fun _ => ?_);refine wpAny_ite_split (fun _ => ?_) (fun hab => absurd (by decide +kernel) hab);refine wpAny_ite_split (fun hab => absurd hab (by decide +kernel)) (fun _ => ?_);exact wpAny_pure h
theorem z5K {R : Result → Shared → Prop} {l : Addr} {items : Array Value} (hh : A.handled = none) (hit : s.heap.IsRevIter r l ((items.size : Int) - 1)) (hl : s.heap.IsList l items) (hne : l ≠ r) (S : Addr) (hSr : S ≠ r) (hSd : S ≠ l) (res : Value) (c₀ : Nat) (hS : s.heap.get? S = some { cls := .type "list", data := .seq #[] c₀ })
    (hR : ∀ h' tk acc' c', (∀ b o, b ≠ S → b ≠ r → s.heap.get? b = some o → h'.get? b = some o) → h'.get? S = some { cls := .type "list", dict := none, data := .seq acc' c', slots := #[] } → ItemsOf (fun i v => items[items.size - 1 - i]? = some v) acc' items.size → R (.ok (.ret res)) { s with heap := h', toks := tk }) (hn : items.size ≤ sizeLine) :
    wpAny (model prog w) A.in1 (Builtin.List.listExtendWith (.ref S) (.ref r) res)
      (fun fin s' => match fin with | .done f => R (.ok f) s' | .again c' => c'.quiet = true ∧ codeAny (model prog w) A c' R s') (fun e s' => R (.error e) s') s := by
  have hSf : S ∉ [r, l] := by simp only [List.mem_cons, List.not_mem_nil, or_false, not_or]; exact ⟨hSr, hSd⟩
  have W := Walks.listRev (prog := prog) (w := w) (A := A.in1) hh r l hne items;unfold Builtin.List.listExtendWith;refine wpAny_bind (wpAny_typeOf (T := "list_reverseiterator") hit.typeIs ?_);have h1 : Builtin.List.listSameRef (.ref S) (.ref r) = false := by simp [Builtin.List.listSameRef, hSr]
  have n1 : (Value.type "list_reverseiterator" == Value.type "list") = false := by decide
  have n2 : (Value.type "list_reverseiterator" == Value.type "tuple") = false := by decide
  simp only [h1, n1, n2, Bool.or_false, Bool.false_eq_true, if_false];have e0 : (items.size : Int) - 1 - ((0 : Nat) : Int) = (items.size : Int) - 1 := by omega
  have st : 0 ≤ items.size ∧ s.heap.IsRevIter r l ((items.size : Int) - 1 - ((0 : Nat) : Int)) ∧ s.heap.IsList l items := ⟨Nat.zero_le _, by rw [e0]; exact hit, hl⟩;have key : ∀ (h : Heap) (c₁ tk : Nat), (0 ≤ items.size ∧ h.IsRevIter r l ((items.size : Int) - 1 - ((0 : Nat) : Int)) ∧ h.IsList l items) → (∀ b o, b ≠ S → s.heap.get? b = some o → h.get? b = some o) →
      h.get? S = some { cls := .type "list", data := .seq #[] c₁ } → codeAny (model prog w) A (.builtin "list.extend.loop" ⟨[.ref S, .ref r, res], []⟩) R { s with heap := h, toks := tk } := by
    intro h c₁ tk hst hk hS₁;refine codeAny_extend_loopS W.toS hn S hSf res items.size 0 _ #[] c₁ rfl (Nat.zero_le _) hst hS₁ (ItemsOf.nil _) fun s' acc' c' hm hS' hacc => ?_
    rw [Moved.eq_with hm];refine hR s'.heap s'.toks acc' c' (fun b o hb hbr e => hm.heap b o (fun hmem => ?_) (hk b o hb e)) hS' hacc;rcases List.mem_cons.mp hmem with e' | hmem
    · exact hb e'
    · exact hbr (List.mem_singleton.mp hmem)
  refine wpAny_bind (wpAny_pyIter_revIter hit ?_);refine wpAny_bind (wpAny_holding (z7R hit.typeIs ?_));refine wpAny_ite_split (fun _ => ?_) (fun _ => wpAny_pure ⟨plainId_quiet PySem.F.plain_extend_loop _, key _ c₀ _ st (fun b o _ e => e) hS⟩);refine wpAny_bind (wpAny_rule ?_);refine wpAny_bind ?_
  show wpAny _ _ (updateSeq S (·.push .none) >>= fun _ => updateSeq S (·.pop)) _ _ _
  refine wpAny_bind (wpAny_updateSeq hS rfl ?_);have hS₂ := Heap.get?_update_self (Obj.mapSeq (·.push Value.none)) hS rfl;refine wpAny_updateSeq (hz := by seq_fits) hS₂ rfl ?_;have hS₃ := Heap.get?_update_self (Obj.mapSeq (·.pop)) hS₂ rfl;refine wpAny_pure ⟨plainId_quiet PySem.F.plain_extend_loop _, key _ _ _ ?_ (fun b o hb e => ?_) hS₃⟩
  · refine W.frame 0 _ _ st fun b hb o e => ?_
    have hbS : b ≠ S := fun h => hSf (h ▸ hb)
    exact (Heap.get?_update_other _ _ (Ne.symm hbS)).trans ((Heap.get?_update_other _ _ (Ne.symm hbS)).trans e)
  · exact (Heap.get?_update_other _ _ (Ne.symm hb)).trans ((Heap.get?_update_other _ _ (Ne.symm hb)).trans e)
theorem z8v {Q : Value → Shared → Prop} {l : Addr} {items : Array Value} (hh : A.handled = none) (hit : s.heap.IsRevIter r l ((items.size : Int) - 1)) (hl : s.heap.IsList l items) (hne : l ≠ r) (hn : items.size ≤ sizeLine)
    (hQ : ∀ h' tk acc' c', (∀ b o, b ≠ r → s.heap.get? b = some o → h'.get? b = some o) → h'.get? s.heap.objs.size = some { cls := .type "list", dict := none, data := .seq acc' c', slots := #[] } → ItemsOf (fun i v => items[items.size - 1 - i]? = some v) acc' items.size → Q (.ref s.heap.objs.size) { s with heap := h', toks := tk }) :
    wpAny (model prog w) A (call (.type "list") [.ref r]) Q E s := by
  refine callType_codes (Q₁ := fun obj s₁ => obj = .ref s.heap.objs.size ∧ s₁ = { s with heap := s.heap.push { cls := .type "list", data := .seq #[] } }) PySem.F.called_list (PySem.F.typeCall_list_1 _) PySem.F.entry_list_init
    (code_list_new _ ⟨rfl, rfl⟩) fun obj s₁ h₁ => ?_
  obtain ⟨rfl, rfl⟩ := h₁;have hS : (s.heap.push { cls := .type "list", data := .seq #[] }).get? s.heap.objs.size = some { cls := .type "list", data := .seq #[] } := Heap.get?_push_size _ rfl;have lr : r < s.heap.objs.size := let ⟨o, ho, _⟩ := hit; Heap.lt_size ho
  have ll : l < s.heap.objs.size := let ⟨o, ho, _⟩ := hl; Heap.lt_size ho
  refine ⟨⟨_, hS, rfl⟩, PySem.F.args_list_init_2 _ _, ?_⟩
  show wpAny _ _ (do let old ← Builtin.List.listItems (.ref s.heap.objs.size); Builtin.List.listUpdate (.ref s.heap.objs.size) (fun _ => #[]); letGo old.toList.reverse; Builtin.List.listExtendWith (.ref s.heap.objs.size) (.ref r) .none) _ _ _
  refine wpAny_bind ?_;unfold Builtin.List.listItems;refine wpAny_bind (wpAny_seqItems hS rfl (wpAny_pure ?_))
  show wpAny _ _ (updateSeq s.heap.objs.size (fun _ => #[]) >>= fun _ => letGo (#[] : Array Value).toList.reverse >>= fun _ => Builtin.List.listExtendWith (.ref s.heap.objs.size) (.ref r) .none) _ _ _
  refine wpAny_bind (wpAny_updateSeq hS rfl ?_);have hS₂ := Heap.get?_update_self (Obj.mapSeq (fun _ => (#[] : Array Value))) hS rfl;have oth : ∀ b o, b ≠ s.heap.objs.size → s.heap.get? b = some o → ((s.heap.push { cls := .type "list", data := .seq #[] }).update s.heap.objs.size (Obj.mapSeq (fun _ => (#[] : Array Value)))).get? b = some o :=
    fun b o hb e => (Heap.get?_update_other _ _ (Ne.symm hb)).trans (Heap.get?_push_of_some _ e)
  refine wpAny_bind (wpAny_letGo ?_);refine z5K (A := A.in1) hh (hit.at fun o e => oth r o (Nat.ne_of_lt lr) e) (hl.at fun o e => oth l o (Nat.ne_of_lt ll) e) hne _ (Nat.ne_of_gt lr) (Nat.ne_of_gt ll) .none _ hS₂ (fun h' tk acc' c' hk hS' hacc => ?_) hn;exact ⟨rfl, hQ h' tk acc' c' (fun b o hbr e => hk b o (Nat.ne_of_lt (Heap.lt_size e)) hbr (oth b o (Nat.ne_of_lt (Heap.lt_size e)) e)) hS' hacc⟩
end
section
variable {X : Cx} {e : Expr} {te : TE} {p p' pos pos' : Pos}
noncomputable def z7x (K : PySem.W.Frag) (te : TE) : TE := fun σ H Q => te σ H fun x H1 => ∃ l xs, x = .ref l ∧ SqL K H1 l xs ∧ ∀ r, H1 r = none → Q (.ref r) (upd H1 r (.lst xs.reverse))
theorem z66 (hcalm : X.calm = true) (hgl : Gl X "list") (hml : X.mg "list" = none) (hgr : Gl X "reversed") (hmr : X.mg "reversed" = none) (he : PE X e te)
    (hs : starEach [.Call (.Name "reversed" p') [e] [] pos'] X.env = [(false, eval (.Call (.Name "reversed" p') [e] [] pos') X.env)] := by rfl) (hs' : starEach [e] X.env = [(false, eval e X.env)] := by rfl) :
    PE X (.Call (.Name "list" p) [.Call (.Name "reversed" p') [e] [] pos'] [] pos) (z7x X.K te) := by
  intro pins s σ H Q I h;refine wpAny_Call_Name_kw (z0N I hgl hml PyProof.Rows.boot_list ?_ (by decide) (by decide));refine PyProof.Rows.callWith_type1 (by
    rw [hs];refine Calls.spliced_cons ?_;refine wpAny_Call_Name_kw (z0N I hgr hmr PyProof.Rows.boot_reversed ?_ (by decide) (by decide));refine PyProof.Rows.callWith_type1 (by
      rw [hs'];refine Calls.spliced_cons (thn (he pins s σ H _ I h) fun u s1 ⟨x, H1, I1, r1, l, xs, ex, hq, q⟩ => Calls.spliced_nil ?_);subst ex;cases r1;obtain ⟨its, rv, pl, hz⟩ := I1.list hq;have hlen := rv.length;refine call_reversed_list pl.isList ?_;refine Calls.spliced_nil ?_;have hne : l ≠ s1.heap.objs.size := by
        obtain ⟨o, ho, _⟩ := pl.isList;exact Nat.ne_of_lt (Heap.lt_size ho)
      have hl2 : (s1.heap.push (revObj l ((its.toArray.size : Int) - 1))).IsList l its.toArray := pl.isList.at fun o e => Heap.get?_push_of_some _ e
      refine z8v (s := { s1 with heap := s1.heap.push (revObj l ((its.toArray.size : Int) - 1)) }) (I1.ok.hd hcalm) ⟨_, Heap.get?_push_size _ rfl, rfl, rfl⟩ hl2 hne (by rw [List.size_toArray]; omega) fun h' tk acc c' hk hS hacc => ?_
      have hsz : (s1.heap.push (revObj l ((its.toArray.size : Int) - 1))).objs.size = s1.heap.objs.size + 1 := Heap.size_push ..;have kp : ∀ b o, s1.heap.get? b = some o → h'.get? b = some o := fun b o e => hk b o (Nat.ne_of_lt (Heap.lt_size e)) (Heap.get?_push_of_some _ e)
      have ea : acc.toList = its.reverse := by
        obtain ⟨ha1, ha2⟩ := hacc;refine List.ext_getElem? fun j => ?_
        by_cases hj : j < its.length
        · have hja : j < acc.size := by rw [ha1, List.size_toArray]; exact hj
          have := ha2 j acc[j] (Array.getElem?_eq_getElem hja);rw [Array.getElem?_toList, Array.getElem?_eq_getElem hja, List.getElem?_reverse hj, ← this];simp
        · rw [List.getElem?_eq_none (by rw [Array.length_toList, ha1, List.size_toArray]; omega), List.getElem?_eq_none (by rw [List.length_reverse]; omega)]
      have rv' : zP xs.reverse acc.toList := by rw [ea]; exact z5o rv
      refine ⟨.ref _, upd H1 _ (.lst xs.reverse), I1.laid (t' := tk) kp (by rw [hsz]; exact Nat.le_succ _) ⟨by rw [List.length_reverse]; exact hz, acc.toList, c', rv', ?_⟩, rfl, q _ (I1.hok.fresh (by rw [hsz]; exact Nat.le_succ _))⟩;rw [hS, Array.toArray_toList]) (by rw [hs']; rfl) (by rw [show starEach ([] : List Expr) X.env = [] from rfl]; rfl)) (by rw [hs]; rfl) (by rw [show starEach ([] : List Expr) X.env = [] from rfl]; rfl)
end
end L2

namespace L2
open PySem PySem.Spec PyProof.Rows
structure ExcCls (K : PySem.W.Frag) (D : Addr) : Prop where
  ga : PySem.W.findIn K (.ref D) "__getattribute__" = some (some (.builtin "BaseException.__getattribute__"))
  gt : PySem.W.findIn K (.ref D) "__getattr__" = some none
  be : PySem.W.subIn K (.ref D) (.type "BaseException") = some true
  hc : (PySem.W.clsIn K D).isSome = true
  ha : PySem.W.findIn K (.ref D) "__class__" = some (some (.builtin "object.__class__"))
  hn : PySem.W.specialIn K (.builtin "object.__class__") "__get__" = some (some (.builtin "getset_descriptor.__get__"))
  ht : PySem.W.takesIn K (.builtin "object.__class__") = some true
  hm : PySem.W.mroIn K D (.type "object") = some true
section
variable {X : Cx}
theorem z9O {pins : List (Addr × Obj)} {s : Shared} {σ : St} {H : Hp} {i : Nat} {x : Str} {v : V} {pos : Pos} {Q : Value → Shared → Prop} (I : Inv X pins σ H s) (hN : X.N[i]? = some x) (hv : Vis X.env.scope x) (e : σ[i]? = some (some v)) (h : ∀ u, RelV v u → Q u s)
    (hd : (x == ("__debug__" : Str)) = false := by decide) (hcd : (x == ("__classdict__" : Str)) = false := by decide) : wpAny (model X.prog X.w) X.A (eval (.Name x pos) X.env) Q X.xe s := by
  obtain ⟨m, hn, hl⟩ := I.loc;obtain ⟨u, r, l⟩ := hl i x v hN e hv;have fin := h u r;rcases l with ⟨hk, hm⟩ | ⟨hk, c, hc, hcell⟩
  · exact wpAny_Name (wpAny_loadName_local I.ok.kind hk hn hm fin) hd
  · rcases hk with hk | hk
    · exact wpAny_Name (wpAny_loadName_cell I.ok.kind hk hc hcell fin) hd
    · exact wpAny_Name (wpAny_loadName_free I.ok.kind hk hc hcell fin hcd) hd
end
end L2

namespace L2
open PySem PySem.Spec PyProof.Rows
noncomputable abbrev SpS := List Env → Shared → Sp
structure FnOkS (P : Program) (w : World) (K : PySem.W.Frag) (mg : Str → Option Value) (base : Heap) (CX : CXT) (k : Nat) (f : Addr) (fd : FuncData) (ps : List Str) (sp : SpS) : Prop where
  len : ∀ outer s vs H Q E, sp outer s vs H Q E → vs.length = ps.length
  run : ∀ (A : Around) (outer : List Env) (s : Shared) (H : Hp) (args : Args) (us : List Value) (vs : List V) (Q : VK) (E : XK), Room k A → Env0 P w K mg base A outer s H → BindsTo s fd args (ps.zip us) → zP vs us → sp outer s vs H Q E →
    codeAny (model P w) A (.call (.ref f) args) (CR CX outer P w H s Q E) s
section
variable {P : Program} {w : World} {K : PySem.W.Frag} {mg : Str → Option Value} {base : Heap}
theorem Fun.okS {CX : CXT} {x qual : Str} {st : Stmt} {f : Addr} {fd : FuncData} {N ps : List Str} {k : Nat} {sp : SpS} (F : Fun K x qual st f fd) (S : FnScope N ps (zl st)) (len : ∀ outer s vs H Q E, sp outer s vs H Q E → vs.length = ps.length)
    (hbody : ∀ (cdv : Value) (A : Around) (outer : List Env) (s : Shared) (H : Hp) (vs : List V) (Q : VK) (E : XK), Room k (A.deeper (envOfC qual (zl st) s.heap.objs.size f cdv)) → sp outer s vs H Q E →
      ∃ t, PSs (z3d CX P w K mg base N qual (zl st) f cdv A outer s H E) (yt st) t ∧ t { nx := fun _ H' => Q .non H', rt := Q } (start N vs) H) : FnOkS P w K mg base CX (k + 1) f fd ps sp := by
  obtain ⟨oc, od, kV, doc, pm, an, cdv, ct, osl, rfl, lk, hcd⟩ := F.ex;refine ⟨len, fun A outer s H args us vs Q E hr e0 hb r hsp => ?_⟩;have hl := len _ _ _ _ _ _ hsp;have KX : K.In s.heap := e0.mod.kin.keeps fun b o e => (e0.bs b o e).1
  have lim : s.heap.NoLimit := e0.mod.nolimit.keeps fun b o e => (e0.bs b o e).1
  have hkind : ∀ y ∈ ps.zip us, (zl st).names.lookup y.1 = some .local ∨ ((zl st).names.lookup y.1 = some .cell ∧ ((cellsFrom (s.heap.objs.size + 1) (zl st).names []).lookup y.1).isSome = true) := fun ⟨n, v⟩ hy => by
    rcases S.par n (List.of_mem_zip hy).1 with q | q
    · exact .inl q
    · exact .inr ⟨q, PySem.W.cellsFrom_some _ _ _ (.inl q)⟩
  refine codeAny_call_function hr.depth (KX _ _ lk) rfl S.co S.gen rfl (PySem.W.codeRec_of KX hcd) (hb _ _ _ _ ?_);refine wpAny_newFunctionEnv_cells S.kind hkind fun env he s1 x => ?_
  subst he;refine ⟨lim.keeps x.toInCall.keep, codeAny_func ?_⟩;obtain ⟨t, ht, hq⟩ := hbody cdv A outer s H vs Q E (hr.deeper _) hsp;have I : Inv (z3d CX P w K mg base N qual (zl st) f cdv A outer s H E) [] (start N vs) H s1 := z3S S hr.hd e0 hl r x;refine wpAny_mono (ht [] s1 (start N vs) H _ I hq) (fun fl s' hs => ?_) fun e s' hs => hs
  have fin : ∀ {σ' : St} {H' : Hp} {v : V} {u : Value}, Inv (z3d CX P w K mg base N qual (zl st) f cdv A outer s H E) [] σ' H' s' → RelV v u → Q v H' → CE outer P w H s Q u s' :=
    fun {σ' H' v u} J rv q => ⟨v, H', J.os, J.bare, J.base, J.hok, rv, q⟩
  cases fl with
  | ret u => obtain ⟨v, σ', H', J, rv, q⟩ := hs; exact fin J rv q
  | next => obtain ⟨σ', H', J, q⟩ := hs; exact fin (v := V.non) (u := Value.none) J rfl q
  | brk => obtain ⟨_, _, _, q⟩ := hs; exact False.elim q
  | cont => obtain ⟨_, _, _, q⟩ := hs; exact False.elim q
end
structure KnS (P : Program) (w : World) (K : PySem.W.Frag) (mg : Str → Option Value) (base : Heap) (CX : CXT) (k : Nat) (x : Str) (ps : List Str) (sp : SpS) : Prop where
  ex : ∃ (f : Addr) (fd : FuncData), FnOkS P w K mg base CX k f fd ps sp ∧ mg x = some (.ref f) ∧ PySem.W.keepIn K (.ref f) = true ∧ Binds K fd ps []
structure WorkOk (P : Program) (w : World) (K : PySem.W.Frag) (mg : Str → Option Value) (base : Heap) (CX : CXT) (k : Nat) (fs : List Addr) (H : Hp) (s : Shared) (lf : Addr) (sp : Sp) : Prop where
  here : ∀ (s' : Shared) (H' : Hp), Un fs [] H H' s.heap s'.heap → PySem.W.FnAt lf s'.heap
  run : ∀ (A : Around) (outer : List Env) (s' : Shared) (H' : Hp) (us : List Value) (vs : List V) (Q : VK) (E : XK), Room k A → Env0 P w K mg base A outer s' H' → Un fs [] H H' s.heap s'.heap → zP vs us → sp vs H' Q E →
    codeAny (model P w) A (.call (.ref lf) ⟨us, []⟩) (CR CX outer P w H' s' Q E) s'
noncomputable abbrev cxW (CX : CXT) (P : Program) (w : World) (K : PySem.W.Frag) (mg : Str → Option Value) (base : Heap) (A : Around) (outer : List Env) (qual : Str) (scope : Scope) (N : List Str) (f : Addr) (cd : Value) (cells : List (Str × Addr)) (s : Shared) (H : Hp) (E : XK) : Cx :=
  { prog := P, w := w, K := K, mg := mg, base := base, A := A.deeper (PySem.W.envX qual scope s.heap.objs.size f cd cells), N := N, s₀ := s, H₀ := H, env := PySem.W.envX qual scope s.heap.objs.size f cd cells, outer := outer,
    stack := PySem.W.envX qual scope s.heap.objs.size f cd cells :: outer, ex := [], fn := fun _ => false, calm := true, pn := [],
    xe := fun e s' => wpAny (model P w) (A.deeper (PySem.W.envX qual scope s.heap.objs.size f cd cells)) (leaving (PySem.W.envX qual scope s.heap.objs.size f cd cells) e) (fun _ s'' => CX outer H s E e s'') (fun e'' s'' => CX outer H s E e'' s'') s' }
structure LamSc (scope : Scope) (a b y : Str) : Prop where
  kind : scope.kind = .function
  co : scope.isCoroutine = false
  gen : scope.isGenerator = false
  la : scope.names.lookup a = some .local
  lb : scope.names.lookup b = some .local
  ly : scope.names.lookup y = some .free
  nd : [a, b, y].Nodup
  nc : ∀ z ∈ scope.names, z.2 ≠ .cell
  only : ∀ z ∈ scope.names, z.2 = .free → z.1 = y
theorem z7F {CX : CXT} {P : Program} {w : World} {K : PySem.W.Frag} {mg : Str → Option Value} {base : Heap} {A : Around} {outer : List Env} {qual : Str} {scope : Scope} {a b y : Str} {f cc : Addr} {cd : Value} {s : Shared} {H : Hp} {E : XK} {h1 : Heap} {tk : Nat} {v1 v2 tv : V} {u1 u2 tu : Value}
    (S : LamSc scope a b y) (hh : A.handled = none) (e0 : Env0 P w K mg base A outer s H) (r1 : RelV v1 u1) (r2 : RelV v2 u2) (r3 : RelV tv tu) (hc : s.heap.IsCell cc (some tu)) (hcn : H cc = none)
    (hns : h1.Ns s.heap.objs.size (fun z => [(a, u1), (b, u2)].reverse.lookup z)) (hk : ∀ b o, s.heap.get? b = some o → h1.get? b = some o) :
    Inv (cxW CX P w K mg base A outer qual scope [a, b, y] f cd [(y, cc)] s H E) [] [some v1, some v2, some tv] H { s with heap := h1, toks := tk } := by
  have nab : a ≠ b := by have := S.nd; simp at this; exact this.1.1
  have look : ∀ z c, ([(y, cc)] : List (Str × Addr)).lookup z = some c → z = y ∧ c = cc := fun z c e => by
    rw [List.lookup_cons] at e;split at e
    · rename_i q;exact ⟨eq_of_beq q, (Option.some.inj e).symm⟩
    · cases e
  have noA : ∀ d : Addr, d ∉ (cxW CX P w K mg base A outer qual scope [a, b, y] f cd [(y, cc)] s H E).ex := fun d z => absurd (show d ∈ ([] : List Addr) from z) (by simp)
  refine ⟨⟨e0.mod, S.kind, rfl, rfl, Nat.le_refl _, fun x z c h1 h2 => (look x c h1).1.trans (look z c h2).1.symm, fun x hx => ?_, fun x c z _ => absurd z Bool.false_ne_true, fun _ => hh, Around.frames_deeper e0.frames, .inr ⟨rfl, rfl⟩, fun b z => absurd z (noA b), e0.bs, e0.bsz, fun b _ _ => noA b, fun b z => absurd z (noA b), e0.funs, e0.frf⟩,
    rfl, e0.bare, Un.kept hk, ⟨_, hns, fun i x v' h1 h2 h3 => ?_⟩, fun x c h => ?_, e0.hok.fresh (Nat.le_refl _), fun x c h => ?_, fun p hp => absurd (show p ∈ ([] : List (Addr × Obj)) from hp) (by simp), e0.hok.kept hk, rfl⟩
  · have hx : scope.names.lookup x = some .cell ∨ scope.names.lookup x = some .free := hx;rcases hx with hx | hx
    · exact absurd rfl (S.nc _ (PySem.mem_of_lookup hx))
    · have : x = y := S.only _ (PySem.mem_of_lookup hx) rfl;subst this;exact ⟨cc, by show ([(x, cc)] : List (Str × Addr)).lookup x = some cc; simp⟩
  · match i, h1, h2 with
    | 0, h1, h2 =>
      cases (show a = x from Option.some.inj h1);cases (show some v1 = some v' from Option.some.inj h2);refine ⟨u1, r1, .inl ⟨S.la, ?_⟩⟩
      show ([(b, u2), (a, u1)] : List (Str × Value)).lookup a = some u1
      rw [List.lookup_cons, show (a == b) = false from by simpa using nab];simp
    | 1, h1, h2 =>
      cases (show b = x from Option.some.inj h1);cases (show some v2 = some v' from Option.some.inj h2);refine ⟨u2, r2, .inl ⟨S.lb, ?_⟩⟩
      show ([(b, u2), (a, u1)] : List (Str × Value)).lookup b = some u2
      simp
    | 2, h1, h2 =>
      cases (show y = x from Option.some.inj h1);cases (show some tv = some v' from Option.some.inj h2);exact ⟨tu, r3, .inr ⟨.inr S.ly, cc, by show ([(y, cc)] : List (Str × Addr)).lookup y = some cc; simp, hc.keeps hk⟩⟩
    | n + 3, h1, _ => cases h1
  · obtain ⟨_, rfl⟩ := look x c h;exact ⟨_, hc.keeps hk⟩
  · obtain ⟨_, rfl⟩ := look x c h;exact hcn
section
variable {X : Cx} {pins : List (Addr × Obj)} {σ : St} {H : Hp} {s : Shared} {CX : CXT} {k : Nat} {T c : Addr} {lp : Pos} {params : Arguments} {body : Expr} {scope : Scope} {a b y : Str} {j : Nat} {tv : V} {tb : XK → TE}
theorem z7v {f : Addr} {pm ct : Value} (I : Inv X (pins ++ [(f, z2b X params body scope pm c ct)]) σ H s) (lin : z30 H T lp (X.env.qual ++ "<lambda>") c) (S : LamSc scope a b y) (hck : X.env.kindOf y = some .cell ∨ X.env.kindOf y = some .free) (hN : X.N[j]? = some y) (hσ : σ[j]? = some (some tv))
    (hcl : yB X.env scope.names [] = [(y, (X.env.cells.lookup y).getD 0)])
    (hbind : ∀ (pm ct u1 u2 : Value) (c : Addr), bindArgs (PySem.W.kla_fn "<lambda>" (X.env.qual ++ "<lambda>") params body scope (yB X.env scope.names []) pm (.ref c) ct) ⟨[u1, u2], []⟩ = pure [(a, u1), (b, u2)])
    (hb : ∀ A outer f cd cc s H E, Room k (A.deeper (PySem.W.envX (X.env.qual ++ "<lambda>") scope s.heap.objs.size f cd [(y, cc)])) → PE (cxW CX X.prog X.w X.K X.mg X.base A outer (X.env.qual ++ "<lambda>") scope [a, b, y] f cd [(y, cc)] s H E) body (tb E)) :
    WorkOk X.prog X.w X.K X.mg X.base CX (k + 1) (frs X.stack) H s f (fun vs H Q E => ∃ v1 v2, vs = [v1, v2] ∧ tb E [some v1, some v2, some tv] H Q) := by
  obtain ⟨hf, hfn, _⟩ := I.pin _ (List.mem_append_right _ (List.mem_append_right _ (List.mem_singleton.mpr rfl)));obtain ⟨cc, hcc⟩ := I.ok.has y hck;obtain ⟨m, hn, hl⟩ := I.loc;obtain ⟨tu, rt, lk⟩ := hl j y tv hN hσ (by
    rcases hck with q | q
    · exact .inr (.inl q)
    · exact .inr (.inr q))
  have hcell : s.heap.IsCell cc (some tu) := by
    rcases lk with ⟨q, _⟩ | ⟨_, c', e', z⟩
    · rcases hck with z | z
      · rw [q] at z; cases z
      · rw [q] at z; cases z
    · rw [hcc] at e';cases e';exact z
  have hcn : H cc = none := I.freeC y cc hcc;have hcl' : yB X.env scope.names [] = [(y, cc)] := by rw [hcl, hcc]; rfl
  refine ⟨fun s' H' un => ?_, fun A outer s' H' us vs Q E hr e0 un r hsp => ?_⟩
  · obtain ⟨sl, e⟩ := un.any hf hfn (by simp);exact ⟨_, _, _, _, e⟩
  · obtain ⟨v1, v2, rfl, hsp⟩ := hsp;obtain ⟨u1, u2, rfl, r1, r2⟩ := vals2 r;obtain ⟨sl, e⟩ := un.any hf hfn (by simp);have hcell' : s'.heap.IsCell cc (some tu) := by
      obtain ⟨o, ho, hd⟩ := hcell;obtain ⟨sl, e⟩ := un.any ho hcn (by simp);exact ⟨_, e, hd⟩
    have hcn' : H' cc = none := by
      obtain ⟨o, ho, _⟩ := hcell;exact un.free cc o ho hcn (by simp)
    have hrec : s'.heap.CodeRec (.ref c) (X.env.qual ++ "<lambda>") := by
      obtain ⟨_, oc, vs, t, h2, h3, h4⟩ := lin;obtain ⟨e, _⟩ := e0.hok c _ (un.frzs _ _ _ h2);exact ⟨c, oc, vs, t, rfl, e, h3, h4⟩
    have lim : s'.heap.NoLimit := e0.mod.nolimit.keeps fun b o e => (e0.bs b o e).1
    refine PySem.W.kla_callFunE hr.depth e rfl S.co S.gen rfl hrec ?_;have hbd := hbind pm ct u1 u2 c;dsimp only at hbd ⊢;rw [hbd];refine wpAny_pure (wpAny_newFunctionEnv S.nc (fun z hz => ?_) (fun h1 hns hsb => ⟨?_, ?_⟩) S.kind)
    · simp only [List.mem_cons, List.not_mem_nil, or_false] at hz;rcases hz with rfl | rfl
      · exact S.la
      · exact S.lb
    · exact lim.fresh _ hsb
    · have hk : ∀ b o, s'.heap.get? b = some o → h1.get? b = some o := fun b o e => hsb.extBut b o (Nat.ne_of_lt (Heap.lt_size e)) (Heap.get?_push_of_some _ e)
      have I1 := z7F (CX := CX) (qual := X.env.qual ++ "<lambda>") (f := f) (cd := .ref c) (E := E) (tk := s'.toks + 2) S hr.hd e0 r1 r2 rt hcell' hcn' hns hk
      show codeAny _ _ (.expr body (PySem.W.envX (X.env.qual ++ "<lambda>") scope s'.heap.objs.size f (.ref c) (yB X.env scope.names []))) _ _
      rw [hcl'];refine PySem.W.kla_codeExpr (wpAny_mono (hb A outer f (.ref c) cc s' H' E (hr.deeper _) [] _ _ H' Q I1 hsp) (fun w s2 hq => ?_) fun e s2 z => z);obtain ⟨v, H2, J, ry, q⟩ := hq;exact ⟨v, H2, J.os, J.bare, J.base, J.hok, ry, q⟩
noncomputable def z86 (X : Cx) (CX : CXT) (k : Nat) (T : Addr) (lp : Pos) (q : Str) (j : Nat) (tb : XK → TE) (sp : SpS) (E : XK) (te : TE) : TE := fun σ H Q => te σ H fun v H1 => y0 H1 T lp q ∧ ∃ tv, σ[j]? = some (some tv) ∧
  ∀ (lf c : Addr) (H2 : Hp) (s2 : Shared), Kp T H1 H2 → z30 H2 T lp q c → WorkOk X.prog X.w X.K X.mg X.base CX (k + 1) (frs X.stack) H2 s2 lf (fun vs H Q E => ∃ v1 v2, vs = [v1, v2] ∧ tb E [some v1, some v2, some tv] H Q) → sp X.stack s2 [v, .ref lf] H2 Q E
theorem z2H {k0 : Nat} {F : Str} {ps : List Str} {sp : SpS} {E : XK} {p pos : Pos} {e : Expr} {te : TE} (C : KnS X.prog X.w X.K X.mg X.base CX k0 F ps sp) (hx : z3i CX X E) (hr : Room k0 X.A) (hg : Gl X F) (he : PE X e te) (hc : X.env.code = .ref c) (hC : PySem.W.CodeHd X.base c T) (B : X.base.BuiltinsAt X.mg T)
    (S : LamSc scope a b y) (hck : X.env.kindOf y = some .cell ∨ X.env.kindOf y = some .free) (hN : X.N[j]? = some y)
    (hb : ∀ A outer f cd cc s H E, Room k (A.deeper (PySem.W.envX (X.env.qual ++ "<lambda>") scope s.heap.objs.size f cd [(y, cc)])) → PE (cxW CX X.prog X.w X.K X.mg X.base A outer (X.env.qual ++ "<lambda>") scope [a, b, y] f cd [(y, cc)] s H E) body (tb E))
    (hcl : yB X.env scope.names [] = [(y, (X.env.cells.lookup y).getD 0)] := by rfl)
    (hbind : ∀ (pm ct u1 u2 : Value) (c : Addr), bindArgs (PySem.W.kla_fn "<lambda>" (X.env.qual ++ "<lambda>") params body scope (yB X.env scope.names []) pm (.ref c) ct) ⟨[u1, u2], []⟩ = pure [(a, u1), (b, u2)] := by intro _ _ _ _ _; rfl)
    (hdef : defaultsOf params X.env = ([], []) := by rfl) (hdb : (F == ("__debug__" : Str)) = false := by decide)
    (hst : starEach [e, .Lambda params body scope lp] X.env = (false, eval e X.env) :: starEach [.Lambda params body scope lp] X.env := by rfl) (hst2 : starEach [.Lambda params body scope lp] X.env = [(false, eval (.Lambda params body scope lp) X.env)] := by rfl) (hpl : (backTo pos (starEach [.Lambda params body scope lp] X.env)).any (·.1) = false := by rfl) :
    PE X (.Call (.Name F p) [e, .Lambda params body scope lp] [] pos) (z86 X CX k T lp (X.env.qual ++ "<lambda>") j tb sp E te) := by
  obtain ⟨f0, fd, F0, hm, hk, hbd⟩ := C.ex;intro pins s σ H Q I h;refine wpAny_Call_Name_kw (z4q I hg hm ?_ hdb);refine PySem.W.callWith_K (h₀ := X.base) I.ok.mod.kin hk ?_ hst hpl;rw [hst, hst2]
  show wpAny _ _ (spliced [(false, eval e X.env), (false, eval (.Lambda params body scope lp) X.env)]) _ _ s
  refine Calls.spliced_cons (thn (he pins s σ H _ I h) fun u s1 ⟨v, H1, I1, r1, hL, tv, hσ, q⟩ => Calls.spliced_cons ?_);refine z5e I1 hc hC B hL hdef (fun z hz hzf => by rw [S.only z hz hzf]; exact hck) fun f c' ct pm H2 s2 kp2 lin I2 => Calls.spliced_nil ⟨I2.kIn, ?_⟩
  have W := z7v (CX := CX) (k := k) I2 lin S hck hN hσ hcl hbind hb;have hsp := q f c' H2 s2 kp2 lin W;have hl := F0.len _ _ _ _ _ _ hsp;have rv : zP [v, .ref f] [u, .ref f] := .cons r1 (.cons rfl .nil);have hl2 : ([u, Value.ref f] ++ ([] : List Value)).length = ps.length := hl;have bd := hbd s2 [u, .ref f] I2.kIn hl2;rw [List.append_nil] at bd;refine wpAny_call (codeAny_mono (F0.run X.A X.stack s2 H2 ⟨[u, .ref f], []⟩ [u, .ref f] [v, .ref f] Q E hr I2.env0 bd rv hsp) fun r s' hq => ?_);cases r with
  | error e => exact hx _ σ H2 s2 e s' I2 hq
  | ok fl =>
    cases fl with
    | ret u =>
      obtain ⟨v', H', J, rv', q'⟩ := I2.after hq;exact ⟨v', H', J.pins_of fun p hp => J.pin p (List.mem_append_right _ (List.mem_append_left _ hp)), rv', q'⟩
    | next => exact False.elim hq
    | brk => exact False.elim hq
    | cont => exact False.elim hq
end
end L2

namespace L2
open PySem PySem.Spec PyProof.Rows
noncomputable def once (ks : List Str) : List Str := ks.foldl (fun acc k => if k ∈ acc then acc else acc ++ [k]) []
theorem z0T (ks : List Str) (k : Str) : once (ks ++ [k]) = if k ∈ once ks then once ks else once ks ++ [k] := by
  unfold once;rw [List.foldl_append]
  rfl
theorem snoc_ind {α : Type} {P : List α → Prop} (h0 : P []) (h1 : ∀ l a, P l → P (l ++ [a])) (l : List α) : P l := by
  have : ∀ l : List α, P l.reverse := fun l => by
    induction l with
    | nil => exact h0
    | cons a r ih => rw [List.reverse_cons]; exact h1 _ _ ih
  have := this l.reverse
  rwa [List.reverse_reverse] at this
theorem z1H {k : Str} (ks : List Str) : k ∈ once ks ↔ k ∈ ks := by
  refine snoc_ind (P := fun ks => k ∈ once ks ↔ k ∈ ks) (by unfold once; simp) (fun l a ih => ?_) ks;rw [z0T];split
  · rename_i h;rw [List.mem_append, ih];refine ⟨.inl, fun z => z.elim id fun z => ?_⟩;rw [List.mem_singleton.mp z] at ih ⊢;exact ih.mp h
  · rw [List.mem_append, List.mem_append, ih]
theorem z6B (ks : List Str) : (once ks).length ≤ ks.length := by
  refine snoc_ind (P := fun ks => (once ks).length ≤ ks.length) (by unfold once; simp) (fun l a ih => ?_) ks;rw [z0T];split <;> simp only [List.length_append, List.length_singleton] <;> omega
theorem z5T (ks : List Str) : (once ks).length = ks.length ↔ ks.Nodup := by
  refine snoc_ind (P := fun ks => (once ks).length = ks.length ↔ ks.Nodup) (by unfold once; simp) (fun l a ih => ?_) ks;have hle := z6B l;rw [z0T];split
  · rename_i h;rw [z1H] at h;refine ⟨fun z => ?_, fun z => ?_⟩
    · rw [List.length_append, List.length_singleton] at z; omega
    · exact absurd rfl ((List.nodup_append.mp z).2.2 a h a (List.mem_singleton.mpr rfl))
  · rename_i h;rw [z1H] at h;rw [List.length_append, List.length_append];refine ⟨fun z => ?_, fun z => ?_⟩
    · have := ih.mp (by simpa using z);exact List.nodup_append.mpr ⟨this, by simp, fun x hx y hy e => h (by rw [List.mem_singleton.mp hy] at e; rw [← e]; exact hx)⟩
    · rw [ih.mpr (List.nodup_append.mp z).1]
section
variable {prog : Program} {w : World} {A : Around}
noncomputable abbrev tk (prog : Program) (w : World) := PySem.strKind prog w
theorem z8e {R : Result → Shared → Prop} {I : Addr} {fp wr : List Addr} {G : Array GenState → Array GenState → Prop} {n : Nat} {Pv : Nat → Value → Prop} {St : Nat → Shared → Prop} (W : WalksS prog w A.in1 I fp wr G n Pv St) {S : Addr} (hS : S ∉ fp) {ks : List Str} (hn : ks.length = n)
    (hv : ∀ i v, Pv i v → ∃ t, v = .str (ks.getD i "") t) (hb : n + 1 < scanBound) : ∀ (k i : Nat) (s : Shared), n - i = k → i ≤ n → St i s → s.heap.SetOf (tk prog w) S (fun x => decide (x ∈ ks.take i)) (once (ks.take i)).length →
      (∀ s', Moved (S :: wr) G s s' → s'.heap.SetOf (tk prog w) S (fun x => decide (x ∈ ks)) (once ks).length → R (.ok (.ret .none)) s') → codeAny (model prog w) A (.builtin "set.update.loop" ⟨[.ref S, .ref I], []⟩) R s := by
  have sub : ∀ b ∈ wr, b ∈ S :: wr := fun b z => .tail _ z
  have nw : S ∉ wr := fun z => hS (W.sub _ z)
  have mv : ∀ {s s' : Shared} {g : Str → Bool} {m : Nat}, Moved wr G s s' → s.heap.SetOf (tk prog w) S g m → s'.heap.SetOf (tk prog w) S g m := fun hm ⟨o, es, ep, t, ho, z⟩ => ⟨o, es, ep, t, hm.heap S _ nw ho, z⟩
  intro k; induction k with
  | zero =>
    intro i s hk hi st so fin;obtain rfl : i = n := by omega
    rw [List.take_of_length_le (by omega)] at so;refine codeAny_builtin PyProof.Rows.F.entry_set_update_loop (by
      rw [Around.under_plainId PyProof.Rows.F.plain_set_update_loop _];exact wpAny_bind (W.done s _ _ st fun s' hm => wpAny_pure (fin s' (hm.mono sub) (mv hm so))))
  | succ k ih =>
    intro i s hk hi st so fin;have hlt : i < ks.length := by omega
    refine codeAny_builtin PyProof.Rows.F.entry_set_update_loop (by
      rw [Around.under_plainId PyProof.Rows.F.plain_set_update_loop _];refine wpAny_bind (W.item i s _ _ (by omega) st fun v s' hp st' hm => ?_);obtain ⟨t, rfl⟩ := hv i v hp;have so' := mv hm so;have room : (once (ks.take i)).length + 1 < scanBound := by
        have h1 := z6B (ks.take i);rw [List.length_take] at h1;omega
      have e0 : ks.getD i "" = ks[i] := by rw [List.getD_eq_getElem?_getD, List.getElem?_eq_getElem hlt]; rfl
      have et : ks.take (i + 1) = ks.take i ++ [ks[i]] := by rw [List.take_add_one, List.getElem?_eq_getElem hlt]; rfl
      refine wpAny_bind (wpAny_holding (wpAny_holding (wpAny_bind ((tk prog w).pyHash (k := ks[i]) (v := .str (ks.getD i "") t) ?_ ?_))))
      · rw [e0]; exact strKind_is _ _ _ _
      refine wpAny_setAddHashed_of (knd := tk prog w) (k := ks[i]) ?_ rfl so' room fun h' hsb so2 => ?_
      · rw [e0]; exact strKind_is _ _ _ _
      have so3 : h'.SetOf (tk prog w) S (fun x => decide (x ∈ ks.take (i + 1))) (once (ks.take (i + 1))).length := by
        refine PyProof.Rows.SetOf_congr so2 (fun x => ?_) ?_
        · show (decide (x ∈ ks.take i) || decide (x = ks[i])) = _
          rw [et, ← Bool.decide_or];exact decide_eq_decide.mpr (by rw [List.mem_append, List.mem_singleton])
        · rw [et, z0T];by_cases hm : ks[i] ∈ ks.take i
          · rw [if_pos (by simpa using hm), if_pos ((z1H _).mpr hm)]
          · rw [if_neg (by simpa using hm), if_neg (fun z => hm ((z1H _).mp z)), List.length_append]; rfl
      refine wpAny_pure ⟨plainId_quiet PyProof.Rows.F.plain_set_update_loop _, ih (i + 1) _ (by omega) (by omega) (W.frame _ s' _ _ st' (Nat.le_succ _) fun b z o e => ?_) so3 fun s2 hm2 => ?_⟩
      · rw [hsb.2 b fun q => hS (q ▸ z)]; exact e
      · refine fin s2 (Moved.trans W.gtrans ((hm.mono sub).then_heap (Nat.le_succ _) fun b o z e => ?_) hm2);rw [hsb.2 b fun q => z (q ▸ .head _)]; exact e)
noncomputable abbrev newSet (led : Bool) : Obj := { cls := .type "set", dict := none, data := .set #[] 0 (.fresh 0 0 led) }
set_option maxHeartbeats 3200000 in
theorem z74 {E : Value → Shared → Prop} {s : Shared} {l : Addr} {items : List Value} {ks : List Str} {Q : Value → Shared → Prop} (hh : A.handled = none) (hl : s.heap.IsList l items.toArray) (hi : zP (ks.map V.str) items) (hb : ks.length + 1 < scanBound)
    (h : ∀ (h' : Heap) (tk' : Nat), h'.SetOf (tk prog w) s.heap.objs.size (fun x => decide (x ∈ ks)) (once ks).length → (∀ b o, b < s.heap.objs.size → s.heap.get? b = some o → h'.get? b = some o) → Q (.ref s.heap.objs.size) { s with heap := h', toks := tk' }) :
    wpAny (model prog w) A (call (.type "set") [.ref l]) Q E s := by
  have hlen : items.length = ks.length := by rw [← hi.length, List.length_map]
  obtain ⟨c, tl, hmro⟩ := F.called_set.mro;have a1 := F.called_set.made; have a2 := F.called_set.sub; have a3 := F.called_set.notType; have a4 := F.called_set.canCreate;have a5 := F.typeCall_set_1 (.ref l);refine wpAny_call (codeAny_of_tree (wpAny_pure ⟨Code.quiet_builtin _ (by decide +kernel), codeAny_builtin F.entry_type_call ?_⟩));rw [Around.under_plain (weight_type_call_type "set" [.ref l] []) rfl]
  repeat (any_goals (first | assumption | wp_step))
  refine codeAny_mono (code_set_new_1 (.ref l) (E := E) (Q₁ := fun o s1 => ∃ led : Bool, o = .ref s.heap.objs.size ∧ s1 = { s with heap := s.heap.push { cls := .type "set", dict := none, data := .set #[] 0 (.fresh 0 0 led) } }) fun led => ⟨led, rfl, rfl⟩) fun r s1 hr => ?_
  rcases r with e | (_ | _ | _ | o)
  · exact hr
  · exact hr
  · exact hr
  · exact hr
  · obtain ⟨led, rfl, rfl⟩ := hr;have g1 : (s.heap.push (newSet led)).get? s.heap.objs.size = some (newSet led) := Heap.get?_push_size _ rfl;have hT : Shared.TypeIs { s with heap := s.heap.push (newSet led) } (.ref s.heap.objs.size) "set" := ⟨_, g1, rfl⟩;have b1 := F.called_set.init.lookup; have b2 := F.called_set.init.bind (.ref s.heap.objs.size)
    repeat (any_goals (first | assumption | wp_step))
    refine codeAny_mono (codeAny_call_builtin (R := wants (fun r s2 => r = .none ∧ ∃ h' tk', s2 = { s with heap := h', toks := tk' } ∧ h'.SetOf (tk prog w) s.heap.objs.size (fun x => decide (x ∈ ks)) (once ks).length ∧ ∀ b o, b < s.heap.objs.size → s.heap.get? b = some o → h'.get? b = some o) E)
      F.called_set.init.plain F.entry_set_init (check_set_init_1 hT ?_)) fun r2 s2 hr2 => ?_
    · obtain ⟨⟨oc, od, odt, os⟩, hol, hcl, nl, hdl⟩ := hl;simp only at hcl hdl;subst hcl hdl;have c1 : (s.heap.push (newSet led)).get? l = some { cls := .type "list", dict := od, data := .seq items.toArray nl, slots := os } := Heap.get?_push_of_some _ hol;have c2 := F.sub_list_set; have c3 := F.sub_list_frozenset;have c4 : (Value.type "list" == Value.type "dict") = false := by decide
      have c5 : (s.heap.push (newSet led)).IsList l items.toArray := ⟨_, c1, rfl, nl, rfl⟩;unfold Builtin.«set.__init__» noKeywords Builtin.Frozenset.updateFrom; generalize hPI : pyIter = PI
      wp_walk
      subst hPI;have d1 : l < s.heap.objs.size := Heap.lt_size hol;have d2 : A.in1.in1.in1.handled = none := by simp [hh]
      have d3 : (s.heap.push (newSet led)).objs.size = s.heap.objs.size + 1 := Heap.size_push _ _;refine wpAny_pyIter_list c5 (wpAny_bind (wpAny_runValue ?_));refine z8e (ks := ks) (S := s.heap.objs.size) ((Walks.list d2 _ l (by rw [d3]; exact Nat.ne_of_lt (Nat.lt_succ_of_lt d1)) items.toArray).toS) (fun z => (List.mem_cons.mp z).elim (fun e => absurd (e.trans d3) (Nat.ne_of_lt (Nat.lt_succ_self _))) fun z => absurd (List.mem_singleton.mp z) (Nat.ne_of_gt d1)) (by simp [hlen]) (fun i v z => ?_) (by simp [hlen]; exact hb) _ 0 _ rfl (Nat.zero_le _) ⟨⟨_, Heap.get?_push_size _ rfl, rfl, rfl⟩, c5.push _⟩ ?_ ?_
      · have z' : items[i]? = some v := by simpa using z
        have hi2 : i < ks.length := by rw [← hlen]; exact (List.getElem?_eq_some_iff.mp z').1
        obtain ⟨u, hu, ru⟩ := hi.get (show (ks.map V.str)[i]? = some (.str ks[i]) by rw [List.getElem?_map, List.getElem?_eq_getElem hi2]; rfl);rw [z'] at hu;cases hu;obtain ⟨t, rfl⟩ := ru;exact ⟨t, by rw [List.getD_eq_getElem?_getD, List.getElem?_eq_getElem hi2]; rfl⟩
      · have g2 := Heap.get?_push_of_some (h := s.heap.push (newSet led)) { cls := .type "list_iterator", data := .fields #[.ref l, .int 0 0] } g1;exact PyProof.Rows.SetOf_congr ((PyProof.Rows.setObjOf_fresh (knd := tk prog w) led).setOf g2 (by unfold scanBound; omega)) (fun _ => by simp) (by unfold once; rfl)
      · intro s' hm so';obtain ⟨h', g', d', t', os'⟩ := s';obtain rfl : g' = s.gens := hm.gens;obtain rfl : d' = s.drawn := hm.drawn;obtain rfl : os' = s.os := hm.os;refine wpAny_pure (wpAny_pure ⟨rfl, h', t', rfl, so', fun b o hb e => ?_⟩);refine hm.heap b o ?_ (Heap.get?_push_of_some _ (Heap.get?_push_of_some _ e));exact fun z => (List.mem_cons.mp z).elim (Nat.ne_of_lt hb) fun z => absurd ((List.mem_singleton.mp z).trans d3) (Nat.ne_of_lt (Nat.lt_succ_of_lt hb))
    · rcases r2 with e | (_ | _ | _ | o)
      · exact hr2
      · exact hr2
      · exact hr2
      · exact hr2
      · obtain ⟨rfl, h', tk', rfl, so', hk'⟩ := hr2
        repeat (any_goals (first | assumption | wp_step))
        exact h _ _ so' hk'
end
end L2

namespace L2
open PySem PySem.Spec PyProof.Rows
noncomputable def z9X (P : Program) (w : World) (a : Addr) (n : Nat) (h : Heap) : Prop := ∃ S, h.SetOf (tk P w) a S n
section
variable {X : Cx}
theorem z8l {P : Program} {w : World} {K : PySem.W.Frag} (hP : X.prog = P) (hw : X.w = w) (hK : X.K = K) (hc : X.calm = true) : kf X (.type "set") (fun xs H Q => ∃ l ks, xs = [.ref l] ∧ SqL K H l (ks.map V.str) ∧ ks.length ≤ 1000 ∧ ∀ a, H a = none → Q (.ref a) (upd H a (.ext (z9X P w a (once ks).length)))) := by
  subst hP hw hK;intro pins s σ H xs us Q I r h;obtain ⟨l, ks, rfl, hl, hn, q⟩ := h;obtain ⟨u, rfl, ru⟩ := r.one;cases (show u = Value.ref l from ru);obtain ⟨its, rv, pl, hz⟩ := I.list hl;refine z74 (ks := ks) (I.ok.hd hc) pl.isList rv (by unfold scanBound; omega) fun h' t' so hk => ?_
  have hk' : ∀ b o, s.heap.get? b = some o → h'.get? b = some o := fun b o e => hk b o (Heap.lt_size e) e
  refine ⟨.ref _, _, I.laid hk' (Nat.le_refl _) ?_, rfl, q _ I.fresh⟩;refine ⟨⟨_, so⟩, ?_, fun h1 h2 ⟨S, o, es, ep, t, e, z⟩ k => ⟨S, o, es, ep, t, k o e, z⟩⟩;obtain ⟨o, es, ep, t, e, _⟩ := so;exact ⟨o, e⟩
theorem z52 {P : Program} {w : World} (hP : X.prog = P) (hw : X.w = w) : kf X (.builtin "len") (fun xs H Q => ∃ a n, xs = [.ref a] ∧ H a = some (.ext (z9X P w a n)) ∧ Q (.int (n : Nat)) H) := by
  subst hP hw;intro pins s σ H xs us Q I r h;obtain ⟨a, n, rfl, ha, q⟩ := h;obtain ⟨u, rfl, ru⟩ := r.one;cases (show u = Value.ref a from ru);obtain ⟨⟨S, o, es, ep, t, e, hex, hd, _, _, hb, hf, hn⟩, _, _⟩ := (show jy X.prog X.w H s.heap a (.ext (z9X X.prog X.w a n)) from I.hok a _ ha);refine call_len_set e hex hd hf (by unfold scanBound at hb; omega) ?_;exact ⟨.int n, H, I.tok _, ⟨_, by rw [hn]⟩, q⟩
noncomputable def z9k : V → List V → Hp → VK → Prop := fun x vs H Q => ∃ l xs y, x = .ref l ∧ vs = [.int 0, y] ∧ H l = some (.lst xs) ∧ xs.length < sizeLine ∧ Q .non (upd H l (.lst (y :: xs)))
theorem z79 : MtM X "list.insert" z9k := by
  intro pins s σ H x vs v us Q I rx rv h;obtain ⟨l, xs, y, rfl, rfl, hH, hz, q⟩ := h;cases rx;obtain ⟨u0, u, rfl, r0, ru⟩ := vals2 rv;obtain ⟨t0, rfl⟩ := r0;obtain ⟨z, its, n, r, hl, e⟩ := I.lstM hH;refine call_meets F.slot_list_insert ⟨_, e, rfl⟩ F.entry_list_insert (F.args_list_insert_3 _ _ _) (PySem.AutoSeq1.list_insert_list_int_val_1 l its.toArray n 0 t0 u (by decide) (by rw [List.size_toArray]; omega)) ⟨e, ?_⟩;refine ⟨.non, _, I.lset (its' := u :: its) hH e (by simp) (.cons ru r) ?_, rfl, q⟩;rw [List.length_cons];omega
noncomputable def z9d (K : PySem.W.Frag) : R2 := fun x y H Q => ∃ a b xs ys, x = .ref a ∧ y = .ref b ∧ SqL K H a xs ∧ SqL K H b ys ∧ xs.all kg = true ∧ ys.all kg = true ∧ Q (.bl (!eqL xs ys)) H
theorem z75 {K : PySem.W.Frag} (hK : X.K = K) (hu1 : X.A.units + 1 < cLine) : OpR X (compareOp .NotEq) (z9d K) := by
  subst hK;intro pins s σ H x y v u Q I rx ry h;have hu : X.A.units < cLine := by omega
  obtain ⟨a, b, xs, ys, rfl, rfl, ha, hb, fx, fy, q⟩ := h;cases rx; cases ry;obtain ⟨its, r, pl, hz⟩ := I.list ha;obtain ⟨its2, r2, pl2, _⟩ := I.list hb;have l1 := r.length; have l2 := r2.length;by_cases hl : xs.length = ys.length
  · refine SeqAt.RcNeAt.lists (e := fun j => eqV (xs.getD j .non) (ys.getD j .non)) pl.isList pl2.isList (by rw [List.size_toArray, List.size_toArray]; omega) hu (fun j h1 h2 => ?_) _ _ _ _ ⟨.bl (!eqL xs ys), H, I, ?_, q⟩
    · rw [List.size_toArray] at h1;have gx : xs[j]? = some xs[j] := List.getElem?_eq_getElem (by omega);have gy : ys[j]? = some ys[j] := List.getElem?_eq_getElem (by omega);obtain ⟨w1, e1, rw1⟩ := r.get gx;obtain ⟨w2, e2, rw2⟩ := r2.get gy;rw [List.getElem_toArray, List.getElem_toArray, (List.getElem?_eq_some_iff.mp e1).2, (List.getElem?_eq_some_iff.mp e2).2, List.getD_eq_getElem?_getD, List.getD_eq_getElem?_getD, gx, gy];exact z5H rw1 rw2 (List.all_eq_true.mp fx _ (List.mem_of_getElem? gx)) (List.all_eq_true.mp fy _ (List.mem_of_getElem? gy))
    · show Value.bool _ = Value.bool _
      rw [eqL, decide_eq_true hl, Bool.true_and, List.size_toArray, ← l1]
  · refine SeqAt.RcNeAt.lists_lengths pl.isList pl2.isList ?_ hu _ _ _ _ ⟨.bl (!eqL xs ys), H, I, ?_, q⟩
    · rw [List.size_toArray, List.size_toArray, bne_iff_ne, ← l1, ← l2]; exact hl
    · show Value.bool true = Value.bool _
      rw [eqL, decide_eq_false hl, Bool.false_and]; rfl
end
theorem zaA {X : Cx} {tg e : Expr} {w1 w2 : TI} (h1 : PI X tg e w1) (h2 : PI X tg e w2) : PI X tg e (fun σ H R => w1 σ H R ∨ w2 σ H R) := fun pins s σ H R I h => h.elim (h1 pins s σ H R I) (h2 pins s σ H R I)
end L2

namespace L2
open PySem PySem.Spec PyProof.Rows
noncomputable def hid (H : Hp) (d : Addr) : Hp := fun b => if b = d then none else H b
theorem z0D {H : Hp} {d b : Addr} (h : b ≠ d) : hid H d b = H b := if_neg h
theorem z1T {H : Hp} {d : Addr} : hid H d d = none := if_pos rfl
theorem z9h {H : Hp} {d : Addr} {o : HO} (h : H d = none) : hid (upd H d o) d = H := by
  funext b
  by_cases e : b = d
  · subst e; rw [z1T, h]
  · rw [z0D e, zt e]
theorem z1i {H : Hp} {d b : Addr} (h : H b = none) : hid H d b = none := by
  unfold hid;split
  · rfl
  · exact h
section
variable {X : Cx} {pins : List (Addr × Obj)} {σ : St} {H H2 : Hp} {s s' : Shared} {d : Addr} {xs : List V}
theorem Inv.hide (I : Inv X pins σ H s) (hd : H d = some (.lst xs)) : Inv X pins σ (hid H d) s := by
  have nd : ∀ {b : Addr} {o : HO}, H b = some o → (∀ ys, o ≠ .lst ys) → hid H d b = some o := fun {b o} e n => by
    rw [z0D (fun z => by rw [z, hd] at e; cases e; exact n _ rfl)]; exact e
  refine ⟨I.ok, I.os, I.bare, ⟨I.base.keep, I.base.slot, fun b o e n hx => z1i (I.base.free b o e n hx), I.base.there, fun b ys e => nd (I.base.tups b ys e) (by intro _ z; cases z), fun b o u e => nd (I.base.frzs b o u e) (by intro _ z; cases z), fun b ps e => ?_⟩,
    I.loc, I.cell, z1i I.free, fun x c e => z1i (I.freeC x c e), fun p hp => ?_, fun b u e => ?_, I.len⟩
  · obtain ⟨more, z⟩ := I.base.tbls b ps e;exact ⟨more, nd z (by intro _ z; cases z)⟩
  · obtain ⟨a1, a2, a3⟩ := I.pin p hp;exact ⟨a1, z1i a2, a3⟩
  · have nb : b ≠ d := fun z => by rw [z, z1T] at e; cases e
    rw [z0D nb] at e;exact (I.hok b u e).stay (fun c v _ q => q) (fun c q => nd q (by intro _ z; cases z)) fun c ys q => nd q (by intro _ z; cases z)
theorem Inv.readopt (J : Inv X pins σ H2 s') (I : Inv X pins σ H s) (hd : H d = some (.lst xs)) (h2 : H2 d = none) (new : jy X.prog X.w (upd H2 d (.lst xs)) s'.heap d (.lst xs)) : Inv X pins σ (upd H2 d (.lst xs)) s' := by
  have ne : ∀ {b : Addr}, H b = none → b ≠ d := fun {b} e z => by rw [z, hd] at e; cases e
  have n2 : ∀ {b : Addr} {o : HO}, H2 b = some o → upd H2 d (.lst xs) b = some o := fun {b o} e => by rw [zt (fun z => by rw [z, h2] at e; cases e)]; exact e
  refine ⟨J.ok, J.os, J.bare, ⟨J.base.keep, J.base.slot, fun b o e n hx => ?_, J.base.there, fun b ys e => n2 (J.base.tups b ys e), fun b o u e => n2 (J.base.frzs b o u e), fun b ps e => ?_⟩,
    J.loc, J.cell, ?_, fun x c e => ?_, fun p hp => ?_, fun b u e => ?_, J.len⟩
  · rw [zt (ne (I.base.free b o e n hx))]; exact J.base.free b o e n hx
  · obtain ⟨more, z⟩ := J.base.tbls b ps e;exact ⟨more, n2 z⟩
  · rw [zt (ne I.free)]; exact J.free
  · rw [zt (ne (I.freeC x c e))]; exact J.freeC x c e
  · obtain ⟨a1, a2, a3⟩ := J.pin p hp;exact ⟨a1, by rw [zt (ne (I.pin p hp).2.1)]; exact a2, a3⟩
  · by_cases hb : b = d
    · subst hb; rw [zm] at e; cases e; exact new
    · rw [zt hb] at e;exact (J.hok b u e).stay (fun c v _ q => q) (fun c q => n2 q) fun c ys q => n2 q
noncomputable def z8P (i : Nat) (lf : Addr) (sp : Sp) (E : XK) (t : TA) : TE := fun σ H Q => σ[i]? = some (some (.ref lf)) ∧ t σ H fun vs H1 => ∃ d xs, H1 d = some (.lst xs) ∧ sp vs (hid H1 d) (fun v H2 => H2 d = none → Q v (upd H2 d (.lst xs))) E
theorem z6V {CX : CXT} {k i : Nat} {lf : Addr} {sp : Sp} {E : XK} {x : Str} {p pos : Pos} {e : Expr} {es : List Expr} {t : TA} (W : WorkOk X.prog X.w X.K X.mg X.base CX k X.fs X.H₀ X.s₀ lf sp) (hx : z3i CX X E) (hex : X.ex = []) (hr : Room k X.A) (hN : X.N[i]? = some x) (hv : Vis X.env.scope x) (ha : PA X (e :: es) t)
    (hd : (x == ("__debug__" : Str)) = false := by decide) (hcd : (x == ("__classdict__" : Str)) = false := by decide) (he : starEach (e :: es) X.env = (false, eval e X.env) :: starEach es X.env := by rfl) (hpl : (backTo pos (starEach es X.env)).any (·.1) = false := by rfl) :
    PE X (.Call (.Name x p) (e :: es) [] pos) (z8P i lf sp E t) := by
  intro pins s σ H Q I h;obtain ⟨h1, h⟩ := h;refine wpAny_Call_Name_kw (z9O I hN hv h1 (fun u ru => ?_) hd hcd);cases (show u = Value.ref lf from ru);have un : ∀ {H1 : Hp} {s1 : Shared}, Inv X pins σ H1 s1 → Un X.fs [] X.H₀ H1 X.s₀.heap s1.heap := fun {H1 s1} J => by
    have := J.base;rw [hex] at this;exact this
  refine PySem.W.callWith_F (W.here s H (un I)) (thn (ha pos pins s σ H _ I h) fun us s1 ⟨vs, H1, I1, r, d, xs, hxs, q⟩ => ⟨W.here s1 H1 (un I1), ?_⟩) he hpl;have J1 := I1.hide hxs;have same : ∀ s' : Shared, (∀ b o, s1.heap.get? b = some o → hid H1 d b = none → b ∉ frs X.stack → s'.heap.get? b = some o) → ∀ H3 : Hp, jy X.prog X.w H3 s'.heap d (.lst xs) := fun s' kp H3 => by
    obtain ⟨z1, its, n, z2, z3⟩ := (show jy X.prog X.w H1 s1.heap d (.lst xs) from I1.hok d _ hxs);exact ⟨z1, its, n, z2, kp d _ z3 z1T fun z => by have := I1.stkFree d z; rw [hxs] at this; cases this⟩
  refine wpAny_call (codeAny_mono (W.run X.A X.stack s1 (hid H1 d) us vs _ E hr J1.env0 (un J1) r q) fun r s' hq => ?_);cases r with
  | error e => exact hx pins σ _ s1 e s' J1 hq
  | ok fl =>
    cases fl with
    | ret u =>
      obtain ⟨v, H2, c1, c2, un2, hok2, rv, q2⟩ := hq;obtain ⟨v', H2', J2, rv', e1, e2⟩ := J1.after (Q := fun v' H' => v' = v ∧ H' = H2) ⟨v, H2, c1, c2, un2, hok2, rv, rfl, rfl⟩;subst e1 e2;have h2 : H2' d = none := by
        obtain ⟨z1, its, n, z2, z3⟩ := (show jy X.prog X.w H1 s1.heap d (.lst xs) from I1.hok d _ hxs);exact un2.free d _ z3 z1T (by simp)
      exact ⟨v', _, J2.readopt I1 hxs h2 (same s' (fun b o e n nf => un2.keep b o e n nf (by simp)) _), rv', q2 h2⟩
    | next => exact False.elim hq
    | brk => exact False.elim hq
    | cont => exact False.elim hq
end
theorem Fun.okS0 {P : Program} {w : World} {K : PySem.W.Frag} {mg : Str → Option Value} {base : Heap} {x qual : Str} {st : Stmt} {f : Addr} {fd : FuncData} {N ps : List Str} {k : Nat} {sp : SpS} (F : Fun K x qual st f fd) (S : FnScope N ps (zl st)) (len : ∀ outer s vs H Q E, sp outer s vs H Q E → vs.length = ps.length)
    (hbody : ∀ (cdv : Value) (A : Around) (outer : List Env) (s : Shared) (H : Hp) (vs : List V) (Q : VK) (E : XK), Room k (A.deeper (envOfC qual (zl st) s.heap.objs.size f cdv)) → sp outer s vs H Q E →
      ∃ t, PSs (z3d CX0 P w K mg base N qual (zl st) f cdv A outer s H E).nox (yt st) t ∧ t { nx := fun _ H' => Q .non H', rt := Q } (start N vs) H) : FnOkS P w K mg base CX0 (k + 1) f fd ps sp :=
  F.okS S len fun cdv A outer s H vs Q E hr h => by
    obtain ⟨t, h1, q⟩ := hbody cdv A outer s H vs Q E hr h;exact ⟨t, h1.nox, q⟩
end L2

set_option Elab.async false
set_option linter.all false
set_option maxRecDepth 100000
set_option maxHeartbeats 1000000
namespace L2
open PySem PySem.Spec PyProof.Rows
theorem Room.m {j k : Nat} {A : Around} (r : Room k A) (h : j ≤ k := by first | decide | omega) : Room j A := r.mono h
end L2
namespace Q6
open PySem L2 Cn Rw Qs
noncomputable def top (i : Nat) : Stmt := PySem.Challenge.pw_sheetask_k06_plain_answer.main.body.getD i (.Pass ⟨0, 0, 0, 0⟩)
noncomputable abbrev z08 : Stmt := top 2
noncomputable abbrev z0r : Stmt := top 3
noncomputable abbrev z2x : Stmt := top 4
noncomputable abbrev kW : Stmt := top 5
noncomputable abbrev yh : Stmt := top 14
noncomputable abbrev ku : Stmt := top 15
noncomputable abbrev z0x : Stmt := top 16
noncomputable abbrev yq : Stmt := top 18
noncomputable abbrev yK : Stmt := top 19
noncomputable abbrev z09 : Stmt := top 20
noncomputable abbrev yz : Stmt := top 21
noncomputable abbrev yv : Stmt := top 22
noncomputable abbrev z0v : Stmt := top 23
noncomputable abbrev z06 : Stmt := top 24
noncomputable abbrev z1A : Stmt := top 26
noncomputable abbrev z0k : Stmt := top 27
noncomputable abbrev km : Stmt := top 28
noncomputable abbrev yd : Stmt := top 30
noncomputable abbrev yY : Stmt := top 31
noncomputable abbrev z0H : Stmt := top 32
noncomputable abbrev jv : Stmt := top 33
noncomputable abbrev yJ : Stmt := top 34
noncomputable abbrev z0V : Stmt := top 35
noncomputable abbrev kG : Stmt := top 36
noncomputable abbrev yo : Stmt := top 37
noncomputable abbrev z0b : Stmt := top 39
noncomputable abbrev kT : Stmt := top 40
noncomputable abbrev kX : Stmt := top 41
noncomputable abbrev yX : Stmt := top 42
noncomputable abbrev kU : Stmt := top 43
noncomputable abbrev ke : Stmt := top 44
noncomputable abbrev ji : Stmt := top 45
noncomputable abbrev yx : Stmt := top 46
noncomputable abbrev z0c : Stmt := top 47
noncomputable abbrev yr : Stmt := top 48
noncomputable abbrev yO : Stmt := top 49
noncomputable abbrev kq : Stmt := top 50
noncomputable abbrev yH : Stmt := top 51
noncomputable abbrev jB : Stmt := top 52
noncomputable abbrev yE : Stmt := top 53
noncomputable abbrev kA : Stmt := top 54
noncomputable abbrev yU : Stmt := top 55
noncomputable abbrev kr : Stmt := top 56
noncomputable abbrev yG : Stmt := top 57
noncomputable abbrev jC : Stmt := top 58
noncomputable abbrev kZ : Stmt := top 59
noncomputable abbrev z2K : Stmt := top 60
structure Txt (K : PySem.W.Frag) (mg : Str → Option Value) : Prop where
  isinstance : mg "isinstance" = none
  int : mg "int" = none
  bool : mg "bool" = none
  list : mg "list" = none
  tuple : mg "tuple" = none
  str : mg "str" = none
  len : mg "len" = none
  range : mg "range" = none
  min : mg "min" = none
  max : mg "max" = none
  sum : mg "sum" = none
  sorted : mg "sorted" = none
  reversed : mg "reversed" = none
  zip : mg "zip" = none
section
variable {P : Program} {w : World} {K : PySem.W.Frag} {mg : Str → Option Value} {base : Heap} {f : Addr} {fd : FuncData}
seal PE PA PS PSs PT PI PO PG
theorem z0Q {α : Type} (f : α → V) (xs : List α) (lo hi : Option Int) : z0Z (xs.map f) lo hi = ((xs.drop (HT.sIx xs.length 0 lo)).take (HT.sIx xs.length xs.length hi - HT.sIx xs.length 0 lo)).map f := by
  unfold z0Z;rw [List.length_map, List.map_take, List.map_drop]
noncomputable def z5C (K : PySem.W.Frag) : Sp := fun vs H Q _ => ∃ (a : Addr) (ns : List Int) (few bd : Int), vs = [.ref a, .int few, .int bd] ∧ SqL K H a (ns.map V.int) ∧ ns.length ≤ 63 ∧ 0 ≤ few ∧ few ≤ bd ∧
  ∀ (m : Int) (H' : Hp), zF H H' → 0 ≤ m → m ≤ few + 40 → Q (.int m) H'
theorem z4g : FnScope ["_law_script", "_law_few", "_law_bound"] ["_law_script", "_law_few", "_law_bound"] (zl z0b) := ⟨rfl, rfl, rfl, by decide +kernel, rfl, by decide +kernel, by decide +kernel⟩
theorem z4K (F : Fun K "_law_wide" "_law_wide" z0b f fd) (T : Txt K mg) : FnOk P w K mg base CX0 1 f fd ["_law_script", "_law_few", "_law_bound"] (z5C K) := by
  refine F.ok z4g (fun vs H Q E h => ?_) (fun cdv A outer s H vs Q E hr h => ?_)
  · obtain ⟨a, ns, few, bd, rfl, _⟩ := h
    rfl
  obtain ⟨a, ns, few, bd, rfl, hS, h63, h0, hb, q⟩ := h;refine ⟨_, (zd (zO (zw z4W (zx zu rfl T.len PySem.boot_len (zb (pv 0) ze)) za (zC _))
      (zg (zB (pv 2)))
      zE)
    (zg (zB (zh zz (zI (zb (pv 1) (zV (zx (z6T rfl) rfl T.min PyProof.Rows.boot_min (ya (zp yp (pv 1) za) (zb (pv 2) ze))) ze))) (jq z3H rfl T.int PyProof.Rows.boot_int (z6N (kP zT (zp zS (zx (z0E rfl) rfl T.sum PyProof.Rows.boot_sum (zk (jn yy (pv 0) jS (jG za)) ze)) za) za (zC _)) ze)) (fun _ _ => rfl))))), ?_⟩
  have hl : (ns.map V.int).length = ns.length := List.length_map _;refine ⟨_, rfl, a, _, rfl, .inl hS, _, _, rfl, rfl, _, rfl, ?_⟩;refine ifF (decide_eq_false (by rw [hl]; omega)) ?_;refine ⟨_, rfl, _, rfl, _, _, rfl, rfl, _, rfl, _, _, rfl, zq (by show 2 ≤ _; decide), fun lp hlp => ?_⟩;have a1 := zG hlp (.lst [V.int few, V.int (if bd < few + 40 then bd else few + 40)]);refine ⟨_, rfl, _, rfl, a, _, rfl, a1.seq hS, fun cp hcp => ?_⟩;rw [z0Q];refine ⟨cp, _, rfl, SqL.of zm, _, _, rfl, rfl, (by show (0 : Int) < 16; decide), rfl, .inr ⟨_, rfl, ?_⟩⟩;have a2 := a1.trans (zG hcp (.lst (((ns.drop (HT.sIx ns.length 0 none)).take (HT.sIx ns.length ns.length (some 3) - HT.sIx ns.length 0 none)).map V.int)));obtain ⟨bb, hbb⟩ : ∃ bb, decide (V.int (((ns.drop (HT.sIx ns.length 0 none)).take (HT.sIx ns.length ns.length (some 3) - HT.sIx ns.length 0 none)).sum % 16) = V.int 5) = bb := ⟨_, rfl⟩
  dsimp only at hbb ⊢;rw [hbb];have a3 := (zG hcp (.lst (((ns.drop (HT.sIx ns.length 0 none)).take (HT.sIx ns.length ns.length (some 3) - HT.sIx ns.length 0 none)).map V.int))) lp _ zm;cases bb with
  | true => exact ⟨lp, _, _, _, rfl, rfl, SqL.of a3, jd, q _ _ a2 (by split <;> omega) (by split <;> omega)⟩
  | false => exact ⟨lp, _, _, _, rfl, rfl, SqL.of a3, zQ, q _ _ a2 (by omega) (by omega)⟩

theorem z7O : ("(" : Str).length = 1 := by decide +kernel
theorem z6p : (")" : Str).length = 1 := by decide +kernel
theorem z0s : (" " : Str).length = 1 := by decide +kernel
theorem z9J : ("less" : Str).length = 4 := by decide +kernel
theorem z9N : ("same" : Str).length = 4 := by decide +kernel
theorem zaO : ("not" : Str).length = 3 := by decide +kernel
theorem zaD : ("and" : Str).length = 3 := by decide +kernel
theorem zaS : ("or" : Str).length = 2 := by decide +kernel
theorem z9T : ("(pick " : Str).length = 6 := by decide +kernel
theorem z9B : ("(cols " : Str).length = 6 := by decide +kernel
theorem z9D : ("(sort " : Str).length = 6 := by decide +kernel
theorem z8O : ("(first " : Str).length = 7 := by decide +kernel
theorem z9R : ("(both " : Str).length = 6 := by decide +kernel
theorem z9S : ("(pair " : Str).length = 6 := by decide +kernel
theorem z9A : ("(join " : Str).length = 6 := by decide +kernel
theorem z8V : ("(group " : Str).length = 7 := by decide +kernel
theorem z8S : ("(pick (same " : Str).length = 12 := by decide +kernel
theorem zb4 : (") " : Str).length = 2 := by decide +kernel
theorem l_n : ("n" : Str).length = 1 := by decide +kernel
theorem l_s : ("s" : Str).length = 1 := by decide +kernel
theorem zbg : (" n" : Str).length = 2 := by decide +kernel
theorem zaY : (" s" : Str).length = 2 := by decide +kernel
local macro_rules | `(tactic| walk_at "sl") => `(tactic| (simp only [Str.length_append, z7O, z6p, z0s, z9J, z9N, zaO, zaD, zaS, z9T, z9B, z9D, z8O, z9R, z9S, z9A, z8V, z8S, zb4, l_n, l_s, zbg, zaY, PySem.sizeLine_eq]; try omega))
theorem z6J : ∀ i ∈ nums, (toString i : Str).length ≤ 31 ∧ i.natAbs.log2 < 1920 := by decide +kernel
theorem kD : ∀ i ∈ kO, (toString i : Str).length ≤ 31 ∧ i.natAbs.log2 < 1920 := by decide +kernel
theorem z0o {hs : List Str} (hn : ∀ n ∈ hs, n.length ≤ 10) : ∀ {a : Side}, Side.small hs a → (Side.txt a).length ≤ 31
  | .nm s, h => Nat.le_trans (hn s h) (by decide)
  | .nu i, h => (z6J i h).1
theorem yN {hs : List Str} (hn : ∀ n ∈ hs, n.length ≤ 10) : ∀ {c : Cond}, jo hs c → (yc c).length ≤ 80 * c.size
  | .less a b, h => by
    have h1 := z0o hn h.1;have h2 := z0o hn h.2;simp only [yc, ends, Cond.size]
    (walk_at "sl")
  | .same a b, h => by
    have h1 := z0o hn h.1;have h2 := z0o hn h.2;simp only [yc, ends, Cond.size]
    (walk_at "sl")
  | .no c, h => by
    have h1 := yN hn (c := c) h;simp only [yc, Cond.size]
    (walk_at "sl")
  | .an c d, h => by
    have h1 := yN hn (c := c) h.1;have h2 := yN hn (c := d) h.2;simp only [yc, Cond.size]
    (walk_at "sl")
  | .or c d, h => by
    have h1 := yN hn (c := c) h.1;have h2 := yN hn (c := d) h.2;simp only [yc, Cond.size]
    (walk_at "sl")
theorem z8T : inV (.str "less") [.str "less", .str "same"] = true := by decide +kernel
theorem z92 : inV (.str "same") [.str "less", .str "same"] = true := by decide +kernel
theorem za6 : inV (.str "not") [.str "less", .str "same"] = false := by decide +kernel
theorem z9Y : inV (.str "and") [.str "less", .str "same"] = false := by decide +kernel
theorem zaw : inV (.str "or") [.str "less", .str "same"] = false := by decide +kernel
noncomputable def wordOf : Cond → Str
  | .less _ _ => "less"
  | .same _ _ => "same"
  | .no _ => "not"
  | .an _ _ => "and"
  | .or _ _ => "or"
noncomputable def subs : Cond → List Cond
  | .no c => [c]
  | .an c d => [c, d]
  | .or c d => [c, d]
  | _ => []
structure Seen (hs : List Str) (H : Hp) (c : Cond) (v : V) (p : Addr) (xs : List V) : Prop where
  e : v = .ref p
  h : H p = some (.tup (.str (wordOf c) :: xs))
  lf : inV (.str (wordOf c)) [.str "less", .str "same"] = c.leaf
  sd : c.leaf = true → ∃ a b, xs = [Side.v a, Side.v b] ∧ Side.small hs a ∧ Side.small hs b ∧ yc c = "(" ++ wordOf c ++ " " ++ ends a b ++ ")" ∧ (c = .less a b ∨ c = .same a b)
  pt : c.leaf = false → xs.length = (subs c).length ∧ (∀ (i : Nat) x, xs[i]? = some x → ∃ d, (subs c)[i]? = some d ∧ zN H d x ∧ d.size + 1 ≤ c.size ∧ jo hs d) ∧
    yc c = "(" ++ wordOf c ++ " " ++ Str.join " " ((subs c).map yc) ++ ")"
theorem seen {hs : List Str} {H : Hp} {c : Cond} {v : V} (h : zN H c v) (sm : jo hs c) : ∃ p xs, Seen hs H c v p xs := by
  cases c with
  | less a b =>
    obtain ⟨p, rfl, h⟩ := h;exact ⟨p, _, rfl, h, z8T, fun _ => ⟨a, b, rfl, sm.1, sm.2, rfl, .inl rfl⟩, fun z => (by cases z)⟩
  | same a b =>
    obtain ⟨p, rfl, h⟩ := h;exact ⟨p, _, rfl, h, z92, fun _ => ⟨a, b, rfl, sm.1, sm.2, rfl, .inr rfl⟩, fun z => (by cases z)⟩
  | no c =>
    obtain ⟨p, x, rfl, h, h1⟩ := h;refine ⟨p, _, rfl, h, za6, fun z => (by cases z), fun _ => ⟨rfl, fun i y hy => ?_, rfl⟩⟩
    match i, hy with
    | 0, hy => cases hy; exact ⟨c, rfl, h1, Nat.le_refl _, sm⟩
  | an c d =>
    obtain ⟨p, x, y, rfl, h, h1, h2⟩ := h;refine ⟨p, _, rfl, h, z9Y, fun z => (by cases z), fun _ => ⟨rfl, fun i y hy => ?_, rfl⟩⟩
    match i, hy with
    | 0, hy => cases hy; exact ⟨c, rfl, h1, by simp only [Cond.size]; omega, sm.1⟩
    | 1, hy => cases hy; exact ⟨d, rfl, h2, by simp only [Cond.size]; omega, sm.2⟩
  | or c d =>
    obtain ⟨p, x, y, rfl, h, h1, h2⟩ := h;refine ⟨p, _, rfl, h, zaw, fun z => (by cases z), fun _ => ⟨rfl, fun i y hy => ?_, rfl⟩⟩
    match i, hy with
    | 0, hy => cases hy; exact ⟨c, rfl, h1, by simp only [Cond.size]; omega, sm.1⟩
    | 1, hy => cases hy; exact ⟨d, rfl, h2, by simp only [Cond.size]; omega, sm.2⟩
theorem z4U {hs : List Str} {a : Side} (sm : Side.small hs a) : z84 (Side.v a) (Side.txt a) := by
  cases a with
  | nm s => exact .inr rfl
  | nu i => exact .inl ⟨i, rfl, (z6J i sm).2, rfl⟩
theorem z37 (x : V) (r : List V) : z0Z (x :: r) (some 1) none = r := by
  unfold z0Z;rw [show HT.sIx (x :: r).length 0 (some 1) = 1 by unfold HT.sIx; simp];rw [HT.sIx_none, List.drop_succ_cons, List.drop_zero, List.length_cons, Nat.add_sub_cancel, List.take_length]
theorem z3b {x : V} {r : List V} : ¬ (HT.sIx (x :: r).length 0 (some 1) = 0 ∧ HT.sIx (x :: r).length (x :: r).length none = (x :: r).length) := by
  rw [show HT.sIx (x :: r).length 0 (some 1) = 1 by unfold HT.sIx; simp];rintro ⟨z, _⟩;cases z
theorem z6x (c : Cond) : (subs c).length ≤ 2 := by cases c <;> simp [subs]
theorem za0 (c : Cond) : (((subs c).map yc).map (·.length)).sum + ((subs c).map yc).length * 1 ≤ (Str.join " " ((subs c).map yc)).length + 1 := by
  cases c with
  | less a b => simp [subs]
  | same a b => simp [subs]
  | no c => simp [subs, Str.join]
  | an c d =>
    simp only [subs, List.map_cons, List.map_nil, Str.join, Str.length_append, z0s, List.sum_cons, List.sum_nil, List.length_cons, List.length_nil];omega
  | or c d =>
    simp only [subs, List.map_cons, List.map_nil, Str.join, Str.length_append, z0s, List.sum_cons, List.sum_nil, List.length_cons, List.length_nil];omega
noncomputable def z1v (K : PySem.W.Frag) (n : Nat) : Sp := fun vs H Q _ => ∃ (v : V) (hs : List Str) (c : Cond), vs = [v] ∧ zN H c v ∧ jo hs c ∧ (∀ n ∈ hs, n.length ≤ 10) ∧ c.size ≤ n ∧ c.size ≤ 1000 ∧ ∀ H', zF H H' → Q (.str (yc c)) H'
theorem z0i : FnScope ["_law_condition", "_law_ends", "_law_parts"] ["_law_condition"] (zl yr) := ⟨rfl, rfl, rfl, by decide +kernel, rfl, by decide +kernel, by decide +kernel⟩
theorem z2p (F : Fun K "_law_spelt" "_law_spelt" yr f fd) (T : Txt K mg) (n : Nat) (C_law_spelt : Kn P w K mg base n "_law_spelt" ["_law_condition"] (z1v K n)) : FnOk P w K mg base CX0 (n + 1) f fd ["_law_condition"] (z1v K (n + 1)) := by
  refine F.ok z0i (fun vs H Q E h => ?_) (fun cdv A outer s H vs Q E hr h => ?_)
  · obtain ⟨v, hs, c, rfl, _⟩ := h
    rfl
  obtain ⟨v, hs, c, rfl, hc, sm, hn, hsz, hk, q⟩ := h;obtain ⟨p, xs, rfl, hp, lf, sd, pt⟩ := seen hc sm;have wl : (wordOf c).length ≤ 4 := by cases c <;> simp only [wordOf] <;> decide +kernel
  refine ⟨_, (zd (zO (zw z0P (zh zj (pv 0) za (fun _ _ => rfl)) (zI (zv zn (zv zn ze))) (by with_unfolding_all rfl))
      (zd (zo (i := 1) z0i.nd rfl (Or.inl rfl) (zp zi (zp zi (jq z0U rfl T.str PyProof.Rows.boot_str (zk (zh zj (pv 0) za (fun _ _ => rfl)) ze)) zn) (jq z0U rfl T.str PyProof.Rows.boot_str (zk (zh zj (pv 0) za (fun _ _ => rfl)) ze))))
      (zg (zB (zp zi (zp zi (zp zi (zp zi zn (zh zj (pv 0) za (fun _ _ => rfl))) zn) (pv 1)) zn))))
      zE)
    (zd (yb (j := 2) rfl z0i.nd rfl (Or.inl rfl) (CompSc.of (sx := zl yr) (NX := ["_law_condition", "_law_ends", "_law_parts"]) (fr := []) (ix := []) rfl rfl (by decide +kernel)) (z1S (jn z4M (pv 0) (jG za) jS)) (fun _ _ _ _ _ _ => jr) (fun _ _ _ _ _ _ => (zy C_law_spelt hr.m rfl (zb (pv 0) ze))))
    (zg (zB (zp zi (zp zi (zp zi (zp zi zn (zh zj (pv 0) za (fun _ _ => rfl))) zn) (jF PySem.F.plainAttrs_str PySem.F.slot_str_join PySem.F.type_str_join z6n zn (zb (pv 2) ze))) zn))))), ?_⟩
  refine ⟨_, rfl, p, _, _, _, rfl, rfl, SqT.of hp, zQ, zq (by show 2 ≤ _; decide), fun lp hlp => ?_⟩;have a1 := zG hlp (.lst [V.str "less", V.str "same"]);have hp1 := a1 _ _ hp;refine ⟨lp, _, rfl, .inl (SqL.of zm), rfl, (by rfl), _, rfl, ?_⟩;dsimp -proj only;rw [if_neg Bool.false_ne_true, lf];cases hcl : c.leaf with
  | true =>
    obtain ⟨a, b, rfl, sa, sb, es, _⟩ := sd hcl;have la := z0o hn sa;have lb := z0o hn sb;refine ifT rfl ?_;refine ⟨_, rfl, p, _, _, _, rfl, rfl, SqT.of hp1, jd, _, _, rfl, z4U sa, _, _, rfl, rfl, by (walk_at "sl"), _, rfl, p, _, _, _, rfl, rfl, SqT.of hp1, jx, _, _, rfl, z4U sb, _, _, rfl, rfl, by (walk_at "sl"), ?_⟩;refine ⟨_, rfl, p, _, _, _, rfl, rfl, SqT.of hp1, zQ, _, _, rfl, rfl, by (walk_at "sl"), _, _, rfl, rfl, by (walk_at "sl"), _, rfl, _, _, rfl, rfl, by (walk_at "sl"), _, _, rfl, rfl, by (walk_at "sl"), ?_⟩;have := q _ a1;rw [es] at this;exact this
  | false =>
    obtain ⟨hl, hpt, es⟩ := pt hcl;refine ifF rfl ?_;have sl2 := z6x c;refine ⟨_, rfl, _, rfl, p, _, rfl, SqT.of hp1, z3b, fun cp hcp => ?_⟩;rw [z37];have a2 := a1.trans (zG hcp (.tup xs));have hcp2 : upd (upd H lp (.lst [V.str "less", V.str "same"])) cp (.tup xs) cp = some (.tup xs) := zm;refine ⟨cp, rfl, ⟨_, SqT.of hcp2⟩, ?_⟩;refine z1U (xs := xs) (fun i ys H' => zF (upd (upd H lp (.lst [V.str "less", V.str "same"])) cp (.tup xs)) H' ∧ ys = ((subs c).take i).map fun d => V.str (yc d)) ⟨zF.refl _, rfl⟩ ?_ ?_ ?_
    · rintro i ys H' hi ⟨sm', rfl⟩;exact ⟨SqT.of (sm' _ _ hcp2), zH (by rw [List.length_map, List.length_take]; omega)⟩
    · rintro i x ys H' hi ⟨sm', rfl⟩;obtain ⟨d, hd, hcd, hsd, smd⟩ := hpt i x hi;refine ⟨_, rfl, x, hs, d, rfl, hcd.same (a2.trans sm'), smd, hn, by omega, by omega, fun H3 s3 => ⟨sm'.trans s3, ?_⟩⟩;rw [List.take_add_one, hd, List.map_append]
      rfl
    · rintro ys H' ⟨sm', rfl⟩ rp hrp;rw [hl, List.take_length];have a3 := a2.trans (sm'.trans (zG hrp (.lst ((subs c).map fun d => V.str (yc d)))));have hp3 := a3 _ _ hp;have e2 : ((subs c).map fun d => V.str (yc d)) = ((subs c).map yc).map V.str := by rw [List.map_map]; rfl
      have sb := yN hn sm;rw [es] at sb;simp only [Str.length_append, z7O, z6p, z0s] at sb;refine ⟨_, rfl, p, _, _, _, rfl, rfl, SqT.of hp3, zQ, _, _, rfl, rfl, by (walk_at "sl"), _, _, rfl, rfl, by (walk_at "sl"), rfl, _, rfl, _, _, (subs c).map yc, rfl, rfl, SqL.of (by rw [← e2]; exact zm), ?_, _, _, rfl, rfl, by (walk_at "sl"), _, _, rfl, rfl, by (walk_at "sl"), ?_⟩
      · have := za0 c;simp only [z0s];omega
      · have := q _ a3;rw [es] at this;exact this
theorem z14 (F : Fun K "_law_spelt" "_law_spelt" yr f fd) (T : Txt K mg) (hN : ∀ k sp, FnOk P w K mg base CX0 k f fd ["_law_condition"] sp → Kn P w K mg base k "_law_spelt" ["_law_condition"] sp) : ∀ n, FnOk P w K mg base CX0 n f fd ["_law_condition"] (z1v K n)
  | 0 => ⟨fun vs H Q E h => by obtain ⟨v, hs, c, rfl, _⟩ := h; rfl, fun A outer s H args us vs Q E hr he hb hv h => by
    obtain ⟨v, hs, c, _, _, _, _, hz, _⟩ := h;have := c.size_pos;omega⟩
  | n + 1 => z2p F T n (hN n _ (z14 F T hN n))

noncomputable def z31 (K : PySem.W.Frag) (n : Nat) : Sp := fun vs H Q _ => ∃ (v : V) (hp rp : Addr) (hs : List Str) (rs : List Int) (c : Cond), vs = [v, .ref hp, .ref rp] ∧ zN H c v ∧ jo hs c ∧ H hp = some (.lst (hs.map V.str)) ∧ H rp = some (.lst (rs.map V.int)) ∧ rs.length = hs.length ∧ c.size ≤ n ∧
  ∀ H', zF H H' → Q (.bl (ev hs rs c)) H'
theorem z8M : decide (V.str "same" = V.str "less") = false := by decide +kernel
theorem z91 : decide (V.str "and" = V.str "not") = false := by decide +kernel
theorem z99 : decide (V.str "or" = V.str "not") = false := by decide +kernel
theorem zam : decide (V.str "and" = V.str "or") = false := by decide +kernel
theorem kd : FnScope ["_law_condition", "_law_heads", "_law_row", "_law_word", "_law_sides", "_law_part", "_law_told"] ["_law_condition", "_law_heads", "_law_row"] (zl yO) := ⟨rfl, rfl, rfl, by decide +kernel, rfl, by decide +kernel, by decide +kernel⟩
theorem z2R (F : Fun K "_law_true" "_law_true" yO f fd) (T : Txt K mg) (n : Nat) (C_law_true : Kn P w K mg base n "_law_true" ["_law_condition", "_law_heads", "_law_row"] (z31 K n)) : FnOk P w K mg base CX0 (n + 1) f fd ["_law_condition", "_law_heads", "_law_row"] (z31 K (n + 1)) := by
  refine F.ok kd (fun vs H Q E h => ?_) (fun cdv A outer s H vs Q E hr h => ?_)
  · obtain ⟨v, hp, rp, hs, rs, c, rfl, _⟩ := h
    rfl
  obtain ⟨v, hp, rp, hs, rs, c, rfl, hc, sm, hhp, hrp, hrl, hsz, q⟩ := h;obtain ⟨p, xs, rfl, hp0, lf, sd, pt⟩ := seen hc sm;refine ⟨_, (zd (zo (i := 3) kd.nd rfl (Or.inl rfl) (zh zj (pv 0) za (fun _ _ => rfl)))
    (zd (zO (zw z0P (pv 3) (zI (zv zn (zv zn ze))) (by with_unfolding_all rfl))
      (zd (zo (i := 4) kd.nd rfl (Or.inl rfl) (zI ze))
      (zd (jH PassesOwn.never rfl (z1S (jn z4M (pv 0) (jG za) jS)) (jf (i := 5) kd.nd rfl (Or.inl rfl))
        (zg (zO (yl (zx ja rfl T.isinstance PyProof.Rows.boot_isinstance (zb (pv 5) (zb (yw (v := .ty "str") rfl T.str PyProof.Rows.boot_str rfl) ze))))
          (zg (jc (jF PySem.F.plainAttrs_list PySem.F.slot_list_append PySem.F.type_list_append jz (pv 4) (zk (zh zz (pv 2) (jF PySem.F.plainAttrs_list PySem.F.slot_list_index PySem.F.type_list_index jY (pv 1) (zb (pv 5) ze)) (fun _ _ => rfl)) ze))))
          (zg (jc (jF PySem.F.plainAttrs_list PySem.F.slot_list_append PySem.F.type_list_append jz (pv 4) (zb (pv 5) ze)))))))
      (zd (zO (zw zT (pv 3) zn (zC _))
        (zg (zB (kP z40 (zh zz (pv 4) za (fun _ _ => rfl)) (zh zz (pv 4) za (fun _ _ => rfl)) (zC _))))
        zE)
      (zg (zB (kP zT (zh zz (pv 4) za (fun _ _ => rfl)) (zh zz (pv 4) za (fun _ _ => rfl)) (zC _)))))))
      zE)
    (zd (yb (j := 6) rfl kd.nd rfl (Or.inl rfl) (CompSc.of (sx := zl yO) (NX := ["_law_condition", "_law_heads", "_law_row", "_law_word", "_law_sides", "_law_part", "_law_told"]) (fr := ["_law_heads", "_law_row"]) (ix := [1, 2]) rfl rfl (by decide +kernel)) (z1S (jn z4M (pv 0) (jG za) jS)) (fun _ _ _ _ _ _ => jr) (fun _ _ _ _ _ _ => (zy C_law_true hr.m rfl (zb (pv 0) (zb (pv 1) (zb (pv 2) ze))))))
    (zd (zO (zw zT (pv 3) zn (zC _))
      (zg (zB (z64 (zh zz (pv 6) za (fun _ _ => rfl)))))
      zE)
    (zd (zO (zw zT (pv 3) zn (zC _))
      (zg (zB (kP z0P yP (pv 6) (by with_unfolding_all rfl))))
      zE)
    (zg (zB (kP kR yP (pv 6) (by with_unfolding_all rfl))))))))), ?_⟩
  refine ⟨_, rfl, p, _, _, _, rfl, rfl, SqT.of hp0, zQ, ?_⟩;refine ⟨_, rfl, zq (by show 2 ≤ _; decide), fun lp hlp => ?_⟩;have a1 := zG hlp (.lst [V.str "less", V.str "same"]);refine ⟨lp, _, rfl, .inl (SqL.of zm), rfl, (by rfl), _, rfl, ?_⟩;generalize upd H lp (.lst [V.str "less", V.str "same"]) = H1 at a1 ⊢;have hp1 := a1 _ _ hp0;have hh1 := a1 _ _ hhp;have hr1 := a1 _ _ hrp;rw [if_neg Bool.false_ne_true, lf];cases hcl : c.leaf with
  | true =>
    obtain ⟨a, b, rfl, sa, sb, _, hab⟩ := sd hcl;refine ifT rfl ?_;refine ⟨zq (by show 0 ≤ _; decide), fun sp hsp => ?_⟩;have b1 := zG hsp (.lst []);have hp2 := b1 _ _ hp1;refine ⟨_, rfl, _, rfl, p, _, rfl, SqT.of hp2, z3b, fun cp hcp => ?_⟩;rw [z37];have b2 := b1.trans (zG hcp (.tup [Side.v a, Side.v b]));have ncp : cp ≠ sp := (zr zm hcp).symm;have hsp2 : upd (upd H1 sp (.lst [])) cp (.tup [Side.v a, Side.v b]) sp = some (.lst []) := by rw [zt ncp.symm]; exact zm
    have hcp2 : upd (upd H1 sp (.lst [])) cp (.tup [Side.v a, Side.v b]) cp = some (.tup [Side.v a, Side.v b]) := zm;generalize upd (upd H1 sp (.lst [])) cp (.tup [Side.v a, Side.v b]) = H2 at b2 hsp2 hcp2 ⊢;refine ⟨cp, rfl, ⟨_, SqT.of hcp2⟩, z4r (K := K) (a := cp) (xs := [Side.v a, Side.v b]) (fun i σ H' => ∃ o5 : Option V, σ = [some (.ref p), some (.ref hp), some (.ref rp), some (.str (wordOf c)), some (.ref sp), o5, none] ∧ zF H1 H' ∧ H' cp = some (.tup [Side.v a, Side.v b]) ∧ H' sp = some (.lst (([num hs rs a, num hs rs b].take i).map V.int)))
      ⟨none, rfl, b2, hcp2, hsp2⟩ (fun i σ H' _ ⟨_, _, _, h, _⟩ => SqT.of h) ?_ ?_⟩
    · rintro i x σ H' hi ⟨o5, rfl, s', hc', hs'⟩;have key : ∃ d : Side, x = Side.v d ∧ Side.small hs d ∧ [num hs rs a, num hs rs b].take (i + 1) = [num hs rs a, num hs rs b].take i ++ [num hs rs d] := by
        match i, hi with
        | 0, hi => cases hi; exact ⟨a, rfl, sa, rfl⟩
        | 1, hi => cases hi; exact ⟨b, rfl, sb, rfl⟩
      obtain ⟨d, rfl, sdd, et⟩ := key;have hh' := s' _ _ hh1;have hr' := s' _ _ hr1;have fin : ∃ o5 : Option V, ([some (.ref p), some (.ref hp), some (.ref rp), some (.str (wordOf c)), some (.ref sp), some (Side.v d), none] : List (Option V)) = [some (.ref p), some (.ref hp), some (.ref rp), some (.str (wordOf c)), some (.ref sp), o5, none] ∧ zF H1 (upd H' sp (.lst ((([num hs rs a, num hs rs b].take i).map V.int) ++ [V.int (num hs rs d)]))) ∧
          upd H' sp (.lst ((([num hs rs a, num hs rs b].take i).map V.int) ++ [V.int (num hs rs d)])) cp = some (.tup [Side.v a, Side.v b]) ∧ upd H' sp (.lst ((([num hs rs a, num hs rs b].take i).map V.int) ++ [V.int (num hs rs d)])) sp = some (.lst (([num hs rs a, num hs rs b].take (i + 1)).map V.int)) :=
        ⟨_, rfl, s'.put hsp, by rw [zt ncp]; exact hc', by rw [zm, et, List.map_append]; rfl⟩
      have hlt : ((([num hs rs a, num hs rs b].take i).map V.int)).length < sizeLine := zH (by rw [List.length_map, List.length_take]; simp only [List.length_cons, List.length_nil]; omega);cases d with
      | nm s =>
        refine ⟨_, rfl, _, _, _, _, rfl, TyOf.str s, ye, _, rfl, ?_⟩;refine ifT rfl ?_;have hix : hs.idxOf s < rs.length := by rw [hrl]; exact List.idxOf_lt_length_iff.mpr sdd
        have hi0 := j9 sdd;refine ⟨_, rfl, .inl ⟨rfl, _, SqL.of hs'⟩, _, rfl, _, rfl, .inl ⟨rfl, _, SqL.of hh'⟩, _, rfl, hp, _, _, hs.idxOf s, rfl, rfl, SqL.of hh', rfl, zU hs, hi0.1, hi0.2, rp, _, _, _, rfl, rfl, SqL.of hr', zW (int_at hix), sp, _, _, rfl, rfl, hs', hlt, ?_⟩;exact fin
      | nu k =>
        refine ⟨_, rfl, _, _, _, _, rfl, TyOf.int k, z0C, _, rfl, ?_⟩;refine ifF rfl ?_;refine ⟨_, rfl, .inl ⟨rfl, _, SqL.of hs'⟩, _, rfl, sp, _, _, rfl, rfl, hs', hlt, ?_⟩;exact fin
    · rintro σ H' ⟨o5, rfl, s', hc', hs'⟩;refine ⟨_, rfl, rfl, _, rfl, ?_⟩;have qq := q _ (a1.trans s');rcases hab with rfl | rfl
      · refine ifT rfl ?_;exact ⟨_, rfl, sp, _, _, _, rfl, rfl, SqL.of hs', zQ, _, rfl, sp, _, _, _, rfl, rfl, SqL.of hs', jd, _, _, rfl, rfl, qq⟩
      · refine ifF z8M ?_;exact ⟨_, rfl, sp, _, _, _, rfl, rfl, SqL.of hs', zQ, _, rfl, sp, _, _, _, rfl, rfl, SqL.of hs', jd, rfl, qbl z1C qq⟩
  | false =>
    obtain ⟨hl, hpt, es⟩ := pt hcl;refine ifF rfl ?_;have sl2 := z6x c;refine ⟨_, rfl, _, rfl, p, _, rfl, SqT.of hp1, z3b, fun cp hcp => ?_⟩;rw [z37];have a2 := zG hcp (.tup xs);have hcp2 : upd H1 cp (.tup xs) cp = some (.tup xs) := zm;generalize upd H1 cp (.tup xs) = H2 at a2 hcp2 ⊢;refine ⟨cp, rfl, ⟨_, SqT.of hcp2⟩, ?_⟩;refine z1U (xs := xs) (fun i ys H' => zF H2 H' ∧ ys = ((subs c).take i).map fun d => V.bl (ev hs rs d)) ⟨zF.refl _, rfl⟩ ?_ ?_ ?_
    · rintro i ys H' hi ⟨sm', rfl⟩;exact ⟨SqT.of (sm' _ _ hcp2), zH (by rw [List.length_map, List.length_take]; omega)⟩
    · rintro i x ys H' hi ⟨sm', rfl⟩;obtain ⟨d, hd, hcd, hsd, smd⟩ := hpt i x hi;have t := a1.trans (a2.trans sm');refine ⟨_, rfl, _, rfl, _, rfl, x, hp, rp, hs, rs, d, rfl, hcd.same t, smd, t _ _ hhp, t _ _ hrp, hrl, by omega, fun H3 s3 => ⟨sm'.trans s3, ?_⟩⟩;rw [List.take_add_one, hd, List.map_append]
      rfl
    · rintro ys H' ⟨sm', rfl⟩ tp htp;rw [hl, List.take_length];have a3 := a1.trans (a2.trans (sm'.trans (zG htp (.lst ((subs c).map fun d => V.bl (ev hs rs d))))));have qq := q _ a3;have fl : ((subs c).map fun d => V.bl (ev hs rs d)).all kg = true := by
        rw [List.all_map, List.all_eq_true];intro d _
        rfl
      refine ⟨_, rfl, rfl, _, rfl, ?_⟩;cases c with
      | less a b => cases hcl
      | same a b => cases hcl
      | no c =>
        refine ifT rfl ?_;exact ⟨_, rfl, tp, _, _, _, rfl, rfl, SqL.of zm, zQ, _, rfl, qq⟩
      | an c d =>
        refine ifF z91 ?_;refine ⟨_, rfl, rfl, _, rfl, ?_⟩;refine ifF zam ?_;refine ⟨_, rfl, tp, _, rfl, .inl (SqL.of zm), rfl, fl, qbl ?_ qq⟩
        show (!inV (V.bl false) [V.bl (ev hs rs c), V.bl (ev hs rs d)]) = (ev hs rs c && ev hs rs d)
        cases ev hs rs c <;> cases ev hs rs d <;> rfl
      | or c d =>
        refine ifF z99 ?_;refine ⟨_, rfl, rfl, _, rfl, ?_⟩;refine ifT rfl ?_;refine ⟨_, rfl, tp, _, rfl, .inl (SqL.of zm), rfl, fl, qbl ?_ qq⟩
        show inV (V.bl true) [V.bl (ev hs rs c), V.bl (ev hs rs d)] = (ev hs rs c || ev hs rs d)
        cases ev hs rs c <;> cases ev hs rs d <;> rfl
theorem z1D (F : Fun K "_law_true" "_law_true" yO f fd) (T : Txt K mg) (hN : ∀ k sp, FnOk P w K mg base CX0 k f fd ["_law_condition", "_law_heads", "_law_row"] sp → Kn P w K mg base k "_law_true" ["_law_condition", "_law_heads", "_law_row"] sp) : ∀ n, FnOk P w K mg base CX0 n f fd ["_law_condition", "_law_heads", "_law_row"] (z31 K n)
  | 0 => ⟨fun vs H Q E h => by obtain ⟨v, hp, rp, hs, rs, c, rfl, _⟩ := h; rfl, fun A outer s H args us vs Q E hr he hb hv h => by
    obtain ⟨v, hp, rp, hs, rs, c, _, _, _, _, _, _, hz, _⟩ := h;have := c.size_pos;omega⟩
  | n + 1 => z2R F T n (hN n _ (z1D F T hN n))

theorem z5U {α : Type} {xs : List α} {i : Int} (h0 : 0 ≤ i) (h1 : i < (xs.length : Int)) : ∃ (h : i.toNat < xs.length), atI xs i = some xs[i.toNat] := by
  have h : i.toNat < xs.length := by omega
  exact ⟨h, z6y h0 (List.getElem?_eq_getElem h)⟩
theorem z0w {i n : Int} (h : 0 < n) : 0 ≤ i % n ∧ i % n < n := ⟨Int.emod_nonneg _ (by omega), Int.emod_lt_of_pos _ h⟩
theorem z9U {i : Int} (h0 : 0 ≤ i) (h1 : i < 6) : ∃ m ∈ nums, atI (nums.map V.int) i = some (.int m) := by
  obtain ⟨h, e⟩ := z5U (xs := nums.map V.int) h0 (by show i < 6; exact h1);refine ⟨nums[i.toNat]'(by simpa using h), List.getElem_mem _, ?_⟩;rw [e, List.getElem_map]
theorem z0t {hs : List Str} {i : Int} (hne : hs ≠ []) : ∃ s ∈ hs, atI (hs.map V.str) (i % (((hs.map V.str).length : Nat) : Int)) = some (.str s) := by
  have hl : 0 < hs.length := List.length_pos_iff.mpr hne;have hm : (0 : Int) < (((hs.map V.str).length : Nat) : Int) := by rw [List.length_map]; omega
  obtain ⟨a, b⟩ := z0w (i := i) hm;obtain ⟨h, e⟩ := z5U (xs := hs.map V.str) a b;refine ⟨hs[(i % (((hs.map V.str).length : Nat) : Int)).toNat]'(by simpa using h), List.getElem_mem _, ?_⟩;rw [e, List.getElem_map]
noncomputable def z35 (K : PySem.W.Frag) : Sp := fun vs H Q _ => ∃ (hp : Addr) (seed : Int) (hs : List Str), vs = [.ref hp, .int seed] ∧ H hp = some (.lst (hs.map V.str)) ∧ hs ≠ [] ∧
  ∀ (v : V) (c : Cond) (H' : Hp), zF H H' → zN H' c v → jo hs c → c.size ≤ 5 → Q v H'
theorem j7 : FnScope ["_law_heads", "_law_seed", "_law_one", "_law_other", "_law_number", "_law_first", "_law_second", "_law_menu"] ["_law_heads", "_law_seed"] (zl kq) := ⟨rfl, rfl, rfl, by decide +kernel, rfl, by decide +kernel, by decide +kernel⟩
theorem z2Z (F : Fun K "_law_asking" "_law_asking" kq f fd) (T : Txt K mg) : FnOk P w K mg base CX0 1 f fd ["_law_heads", "_law_seed"] (z35 K) := by
  refine F.ok j7 (fun vs H Q E h => ?_) (fun cdv A outer s H vs Q E hr h => ?_)
  · obtain ⟨hp, seed, hs, rfl, _⟩ := h
    rfl
  obtain ⟨hp, seed, hs, rfl, hh, hne, q⟩ := h;have hlen : (0 : Int) < (((hs.map V.str).length : Nat) : Int) := by
    have := List.length_pos_iff.mpr hne;rw [List.length_map]; omega
  have tl : ∀ (x : Nat), x ≤ 20 → x ≤ sizeLine := fun x h => zq (by omega)
  obtain ⟨one, m1, e1⟩ := z0t (i := seed) hne;obtain ⟨other, m2, e2⟩ := z0t (i := seed / 3 + 1) hne;obtain ⟨num, m3, e3⟩ := z9U (z0w (i := seed / 2) (n := 6) (by decide)).1 (z0w (i := seed / 2) (n := 6) (by decide)).2;refine ⟨_, (zd (zo (i := 2) j7.nd rfl (Or.inl rfl) (zh zz (pv 0) (zp zS (pv 1) (zx zu rfl T.len PySem.boot_len (zb (pv 0) ze))) (fun _ _ => rfl)))
    (zd (zo (i := 3) j7.nd rfl (Or.inl rfl) (zh zz (pv 0) (zp zS (zp yp (zp jQ (pv 1) za) za) (zx zu rfl T.len PySem.boot_len (zb (pv 0) ze))) (fun _ _ => rfl)))
    (zd (zo (i := 4) j7.nd rfl (Or.inl rfl) (zh zz (zI (zv za (zv za (z8W (z3G z1K za) (zv za (ya (z2z ⟨by decide, by decide, by decide⟩) (zv za ze))))))) (zp zS (zp jQ (pv 1) za) za) (fun _ _ => rfl)))
    (zd (zo (i := 5) j7.nd rfl (Or.inl rfl) (zK (zv zn (zb (pv 2) (zb (pv 4) ze)))))
    (zd (zo (i := 6) j7.nd rfl (Or.inl rfl) (zK (zv zn (zb (pv 2) (zb (pv 3) ze)))))
    (zd (zo (i := 7) j7.nd rfl (Or.inl rfl) (zI (zb (pv 5) (zb (pv 6) (j8 (zK (zv zn (j8 (zK (zv zn (zb (pv 3) (zb (pv 4) ze)))) (j8 (zK (zv zn (zb (pv 5) ze))) ze)))) ze)))))
    (zd (zo (i := 7) j7.nd rfl (Or.inl rfl) (zp yS (pv 7) (zI (j8 (zK (zv zn (zb (pv 5) (zb (pv 6) ze)))) (j8 (zK (zv zn (j8 (zK (zv zn (zb (pv 4) (zb (pv 3) ze)))) ze))) ze)))))
    (zd (zo (i := 7) j7.nd rfl (Or.inl rfl) (zp yS (pv 7) (zI (j8 (zK (zv zn (j8 (zK (zv zn (zb (pv 2) (zb (pv 3) ze)))) (j8 (zK (zv zn (zb (pv 6) (zb (pv 5) ze)))) ze)))) ze))))
    (zd (zo (i := 7) j7.nd rfl (Or.inl rfl) (zp yS (pv 7) (zI (j8 (zK (zv zn (zb (pv 4) (zv za ze)))) (zb (pv 6) (j8 (zK (zv zn (zb (pv 6) (zb (pv 5) ze)))) ze))))))
    (zg (zB (zh zz (pv 7) (zp zS (zp jQ (pv 1) za) za) (fun _ _ => rfl))))))))))))), ?_⟩
  refine ⟨_, rfl, _, rfl, _, rfl, hp, _, rfl, .inl (SqL.of hh), _, _, rfl, rfl, hlen, hp, _, _, _, rfl, rfl, SqL.of hh, e1, ?_⟩;refine ⟨_, rfl, _, rfl, _, _, rfl, rfl, ⟨by decide, by decide⟩, _, _, rfl, rfl, _, rfl, hp, _, rfl, .inl (SqL.of hh), _, _, rfl, rfl, hlen, hp, _, _, _, rfl, rfl, SqL.of hh, e2, ?_⟩;refine ⟨_, rfl, tl 6 (by decide), fun l0 f0 => ?_⟩;refine zf (upd _ l0 _) rfl f0 fun H0 n0 x0 => ?_
  replace x0 : H0 l0 = some (.lst (nums.map V.int)) := x0;refine ⟨_, rfl, _, _, rfl, rfl, ⟨by decide, by decide⟩, _, _, rfl, rfl, (by show (0 : Int) < 6; decide), l0, nums.map V.int, _, _, rfl, rfl, SqL.of x0, e3, ?_⟩;refine ⟨_, rfl, _, rfl, tl _ (by simp), fun pF f1 => ?_⟩;refine zf (upd _ pF _) rfl f1 fun H1 n1 x1 => ?_
  refine ⟨_, rfl, _, rfl, tl _ (by simp), fun pS f2 => ?_⟩;refine zf (upd _ pS _) rfl f2 fun H2 n2 x2 => ?_
  refine ⟨_, rfl, _, rfl, _, rfl, _, rfl, tl _ (by simp), fun p3 f3 => ?_⟩;refine zf (upd _ p3 _) rfl f3 fun H3 n3 x3 => ?_
  refine ⟨_, rfl, tl _ (by simp), fun p4 f4 => ?_⟩;refine zf (upd _ p4 _) rfl f4 fun H4 n4 x4 => ?_
  refine ⟨tl _ (by simp), fun p5 f5 => ?_⟩;refine zf (upd _ p5 _) rfl f5 fun H5 n5 x5 => ?_
  refine ⟨tl _ (by simp), fun l6 f6 => ?_⟩;refine zf (upd _ l6 _) rfl f6 fun H6 n6 x6 => ?_
  refine ⟨_, rfl, _, rfl, _, rfl, tl _ (by simp), fun p7 f7 => ?_⟩;refine zf (upd _ p7 _) rfl f7 fun H7 n7 x7 => ?_
  refine ⟨_, rfl, _, rfl, tl _ (by simp), fun p8 f8 => ?_⟩;refine zf (upd _ p8 _) rfl f8 fun H8 n8 x8 => ?_
  refine ⟨tl _ (by simp), fun p9 f9 => ?_⟩;refine zf (upd _ p9 _) rfl f9 fun H9 n9 x9 => ?_
  refine ⟨tl _ (by simp), fun l10 f10 => ?_⟩;refine zf (upd _ l10 _) rfl f10 fun H10 n10 x10 => ?_
  refine ⟨l6, l10, _, _, rfl, rfl, (n10 _ _ (n9 _ _ (n8 _ _ (n7 _ _ x6)))), x10, tl _ (by simp), fun l11 f11 => ?_⟩;refine zf (upd _ l11 _) rfl f11 fun H11 n11 x11 => ?_
  refine ⟨_, rfl, _, rfl, _, rfl, tl _ (by simp), fun p12 f12 => ?_⟩;refine zf (upd _ p12 _) rfl f12 fun H12 n12 x12 => ?_
  refine ⟨_, rfl, _, rfl, tl _ (by simp), fun p13 f13 => ?_⟩;refine zf (upd _ p13 _) rfl f13 fun H13 n13 x13 => ?_
  refine ⟨tl _ (by simp), fun p14 f14 => ?_⟩;refine zf (upd _ p14 _) rfl f14 fun H14 n14 x14 => ?_
  refine ⟨tl _ (by simp), fun l15 f15 => ?_⟩;refine zf (upd _ l15 _) rfl f15 fun H15 n15 x15 => ?_
  refine ⟨l11, l15, _, _, rfl, rfl, (n15 _ _ (n14 _ _ (n13 _ _ (n12 _ _ x11)))), x15, tl _ (by simp), fun l16 f16 => ?_⟩;refine zf (upd _ l16 _) rfl f16 fun H16 n16 x16 => ?_
  refine ⟨_, rfl, _, rfl, tl _ (by simp), fun p17 f17 => ?_⟩;refine zf (upd _ p17 _) rfl f17 fun H17 n17 x17 => ?_
  refine ⟨_, rfl, _, rfl, _, rfl, tl _ (by simp), fun p18 f18 => ?_⟩;refine zf (upd _ p18 _) rfl f18 fun H18 n18 x18 => ?_
  refine ⟨tl _ (by simp), fun l19 f19 => ?_⟩;refine zf (upd _ l19 _) rfl f19 fun H19 n19 x19 => ?_
  refine ⟨l16, l19, _, _, rfl, rfl, (n19 _ _ (n18 _ _ (n17 _ _ x16))), x19, tl _ (by simp), fun l20 f20 => ?_⟩;refine zf (upd _ l20 _) rfl f20 fun H20 n20 x20 => ?_
  have y1 := (n20 _ _ (n19 _ _ (n18 _ _ (n17 _ _ (n16 _ _ (n15 _ _ (n14 _ _ (n13 _ _ (n12 _ _ (n11 _ _ (n10 _ _ (n9 _ _ (n8 _ _ (n7 _ _ (n6 _ _ (n5 _ _ (n4 _ _ (n3 _ _ (n2 _ _ x1)))))))))))))))))));have y2 := (n20 _ _ (n19 _ _ (n18 _ _ (n17 _ _ (n16 _ _ (n15 _ _ (n14 _ _ (n13 _ _ (n12 _ _ (n11 _ _ (n10 _ _ (n9 _ _ (n8 _ _ (n7 _ _ (n6 _ _ (n5 _ _ (n4 _ _ (n3 _ _ x2))))))))))))))))));have y3 := (n20 _ _ (n19 _ _ (n18 _ _ (n17 _ _ (n16 _ _ (n15 _ _ (n14 _ _ (n13 _ _ (n12 _ _ (n11 _ _ (n10 _ _ (n9 _ _ (n8 _ _ (n7 _ _ (n6 _ _ (n5 _ _ (n4 _ _ x3)))))))))))))))));have y4 := (n20 _ _ (n19 _ _ (n18 _ _ (n17 _ _ (n16 _ _ (n15 _ _ (n14 _ _ (n13 _ _ (n12 _ _ (n11 _ _ (n10 _ _ (n9 _ _ (n8 _ _ (n7 _ _ (n6 _ _ (n5 _ _ x4))))))))))))))));have y5 := (n20 _ _ (n19 _ _ (n18 _ _ (n17 _ _ (n16 _ _ (n15 _ _ (n14 _ _ (n13 _ _ (n12 _ _ (n11 _ _ (n10 _ _ (n9 _ _ (n8 _ _ (n7 _ _ (n6 _ _ x5)))))))))))))));have y6 := (n20 _ _ (n19 _ _ (n18 _ _ (n17 _ _ (n16 _ _ (n15 _ _ (n14 _ _ (n13 _ _ (n12 _ _ (n11 _ _ (n10 _ _ (n9 _ _ (n8 _ _ (n7 _ _ x6))))))))))))));have y7 := (n20 _ _ (n19 _ _ (n18 _ _ (n17 _ _ (n16 _ _ (n15 _ _ (n14 _ _ (n13 _ _ (n12 _ _ (n11 _ _ (n10 _ _ (n9 _ _ (n8 _ _ x7)))))))))))));have y8 := (n20 _ _ (n19 _ _ (n18 _ _ (n17 _ _ (n16 _ _ (n15 _ _ (n14 _ _ (n13 _ _ (n12 _ _ (n11 _ _ (n10 _ _ (n9 _ _ x8))))))))))));have y9 := (n20 _ _ (n19 _ _ (n18 _ _ (n17 _ _ (n16 _ _ (n15 _ _ (n14 _ _ (n13 _ _ (n12 _ _ (n11 _ _ (n10 _ _ x9)))))))))));have y10 := (n20 _ _ (n19 _ _ (n18 _ _ (n17 _ _ (n16 _ _ (n15 _ _ (n14 _ _ (n13 _ _ (n12 _ _ (n11 _ _ x10))))))))));have y11 := (n20 _ _ (n19 _ _ (n18 _ _ (n17 _ _ (n16 _ _ (n15 _ _ (n14 _ _ (n13 _ _ (n12 _ _ x11)))))))));have y12 := (n20 _ _ (n19 _ _ (n18 _ _ (n17 _ _ (n16 _ _ (n15 _ _ (n14 _ _ (n13 _ _ x12))))))));have y13 := (n20 _ _ (n19 _ _ (n18 _ _ (n17 _ _ (n16 _ _ (n15 _ _ (n14 _ _ x13)))))));have y14 := (n20 _ _ (n19 _ _ (n18 _ _ (n17 _ _ (n16 _ _ (n15 _ _ x14))))));have y15 := (n20 _ _ (n19 _ _ (n18 _ _ (n17 _ _ (n16 _ _ x15)))));have y16 := (n20 _ _ (n19 _ _ (n18 _ _ (n17 _ _ x16))));have y17 := (n20 _ _ (n19 _ _ (n18 _ _ x17)));have y18 := (n20 _ _ (n19 _ _ x18));have y19 := (n20 _ _ x19);have sall := n0.trans (n1.trans (n2.trans (n3.trans (n4.trans (n5.trans (n6.trans (n7.trans (n8.trans (n9.trans (n10.trans (n11.trans (n12.trans (n13.trans (n14.trans (n15.trans (n16.trans (n17.trans (n18.trans (n19.trans (n20))))))))))))))))))));have cF : zN H20 (.less (.nm one) (.nu num)) (.ref pF) := ⟨pF, rfl, y1⟩;have cS : zN H20 (.same (.nm one) (.nm other)) (.ref pS) := ⟨pS, rfl, y2⟩;have okF : jo hs (.less (.nm one) (.nu num)) := ⟨m1, m3⟩;have okS : jo hs (.same (.nm one) (.nm other)) := ⟨m1, m2⟩;have one1 : (1 : Int) ∈ nums := by decide +kernel
  obtain ⟨i0, i1⟩ := z0w (i := seed / 5) (n := 9) (by decide);refine ⟨_, rfl, _, rfl, _, _, rfl, rfl, ⟨by decide, by decide⟩, _, _, rfl, rfl, (by show (0 : Int) < 9; decide), ?_⟩;obtain ⟨ix, hix⟩ : ∃ ix, seed / 5 % 9 = ix := ⟨_, rfl⟩
  rw [hix] at i0 i1;have cases9 : ix = 0 ∨ ix = 1 ∨ ix = 2 ∨ ix = 3 ∨ ix = 4 ∨ ix = 5 ∨ ix = 6 ∨ ix = 7 ∨ ix = 8 := by omega
  rcases cases9 with rfl | rfl | rfl | rfl | rfl | rfl | rfl | rfl | rfl
  · exact ⟨l20, _, _, _, rfl, rfl, SqL.of x20, (by show atI _ (seed / 5 % 9) = _; rw [hix]; rfl), q _ _ _ sall cF okF (by simp [Cond.size])⟩
  · exact ⟨l20, _, _, _, rfl, rfl, SqL.of x20, (by show atI _ (seed / 5 % 9) = _; rw [hix]; rfl), q _ _ _ sall cS okS (by simp [Cond.size])⟩
  · exact ⟨l20, _, _, _, rfl, rfl, SqL.of x20, (by show atI _ (seed / 5 % 9) = _; rw [hix]; rfl), q _ (.an (.same (.nm other) (.nu num)) (.no (.less (.nm one) (.nu num)))) _ sall ⟨_, _, _, rfl, y5, ⟨_, rfl, y3⟩, ⟨_, _, rfl, y4, cF⟩⟩ ⟨⟨m2, m3⟩, okF⟩ (by simp only [Cond.size]; decide)⟩
  · exact ⟨l20, _, _, _, rfl, rfl, SqL.of x20, (by show atI _ (seed / 5 % 9) = _; rw [hix]; rfl), q _ (.or (.less (.nm one) (.nu num)) (.same (.nm one) (.nm other))) _ sall ⟨_, _, _, rfl, y7, cF, cS⟩ ⟨okF, okS⟩ (by simp only [Cond.size]; decide)⟩
  · exact ⟨l20, _, _, _, rfl, rfl, SqL.of x20, (by show atI _ (seed / 5 % 9) = _; rw [hix]; rfl), q _ (.no (.less (.nu num) (.nm other))) _ sall ⟨_, _, rfl, y9, ⟨_, rfl, y8⟩⟩ ⟨m3, m2⟩ (by simp only [Cond.size]; decide)⟩
  · exact ⟨l20, _, _, _, rfl, rfl, SqL.of x20, (by show atI _ (seed / 5 % 9) = _; rw [hix]; rfl), q _ (.an (.less (.nm one) (.nm other)) (.or (.same (.nm one) (.nm other)) (.less (.nm one) (.nu num)))) _ sall ⟨_, _, _, rfl, y14, ⟨_, rfl, y12⟩, ⟨_, _, _, rfl, y13, cS, cF⟩⟩ ⟨⟨m1, m2⟩, okS, okF⟩ (by simp only [Cond.size]; decide)⟩
  · exact ⟨l20, _, _, _, rfl, rfl, SqL.of x20, (by show atI _ (seed / 5 % 9) = _; rw [hix]; rfl), q _ (.same (.nu num) (.nu 1)) _ sall ⟨_, rfl, y17⟩ ⟨m3, one1⟩ (by simp only [Cond.size]; decide)⟩
  · exact ⟨l20, _, _, _, rfl, rfl, SqL.of x20, (by show atI _ (seed / 5 % 9) = _; rw [hix]; rfl), q _ _ _ sall cS okS (by simp [Cond.size])⟩
  · exact ⟨l20, _, _, _, rfl, rfl, SqL.of x20, (by show atI _ (seed / 5 % 9) = _; rw [hix]; rfl), q _ (.an (.same (.nm one) (.nm other)) (.less (.nm one) (.nu num))) _ sall ⟨_, _, _, rfl, y18, cS, cF⟩ ⟨okS, okF⟩ (by simp only [Cond.size]; decide)⟩

theorem jX {H H' : Hp} {np : Addr} {fs : List (Addr × List Int)} (hnp : H np = none) (n : zF H H') (x : H' np = some (.lst (refs fs))) (hm : ∀ r ∈ fs, H r.1 = some (.lst (r.2.map V.int))) : RowsAt H' np fs :=
  ⟨x, fun r m => ⟨zr (hm r m) hnp, n _ _ (hm r m)⟩⟩
theorem z0h {α : Type} {x y z u : α} {r : List α} : atI (x :: y :: z :: u :: r) 3 = some u := zW (j := 3) rfl
theorem z0e {α : Type} (f : α → Bool) (xs : List α) {i : Nat} {x : α} (h : xs[i]? = some x) : (xs.take (i + 1)).filter f = (xs.take i).filter f ++ (if f x = true then [x] else []) := by
  rw [List.take_add_one, h, List.filter_append]
  congr 1
  show List.filter f [x] = _
  rw [List.filter_cons]
  rfl
theorem z7K {hs : List Str} {c : Cond} (rs : List (Addr × List Int)) : (rs.filter fun r => ev hs r.2 c).map (·.2) = (rs.map (·.2)).filter fun r => ev hs r c := by
  rw [List.filter_map]
  rfl
noncomputable def z1I (K : PySem.W.Frag) : Sp := fun vs H Q _ => ∃ (th : Str → List Str) (tr : Str → List (List Int)) (q : Qn) (v : V) (seed : Int), vs = [v, .int seed] ∧ TabOk th tr ∧ yD th tr H v q ∧ okQ th q ∧ (zA q).length ≤ 4000000 ∧ (rowsOf th tr q).length ≤ 100000 ∧
  ∀ (v' : V) (c : Cond) (H' : Hp), zF H H' → yD th tr H' v' (.pick c q) → jo (zc th q) c → c.size ≤ 6 → Q v' H'
theorem jZ : FnScope ["_law_state", "_law_seed", "_law_condition", "_law_rows", "_law_line"] ["_law_state", "_law_seed"] (zl yH) := ⟨rfl, rfl, rfl, by decide +kernel, rfl, by decide +kernel, by decide +kernel⟩
theorem z34 (F : Fun K "_law_picked" "_law_picked" yH f fd) (T : Txt K mg) (C_law_asking : Kn P w K mg base 1 "_law_asking" ["_law_heads", "_law_seed"] (z35 K)) (C_law_true : Kn P w K mg base 7 "_law_true" ["_law_condition", "_law_heads", "_law_row"] (z31 K 7)) (C_law_spelt : Kn P w K mg base 7 "_law_spelt" ["_law_condition"] (z1v K 7)) :
    FnOk P w K mg base CX0 8 f fd ["_law_state", "_law_seed"] (z1I K) := by
  refine F.ok jZ (fun vs H Q E h => ?_) (fun cdv A outer s H vs Q E hr h => ?_)
  · obtain ⟨th, tr, q, v, seed, rfl, _⟩ := h
    rfl
  obtain ⟨th, tr, q, v, seed, rfl, TT, hst, hok, hli, hro, fin⟩ := h;obtain ⟨p, qv, hp, rp, rs, rfl, h1, h2, h3, h4, h5⟩ := hst;obtain ⟨hne, hnd⟩ := jm TT hok;have hnl := zY TT hok;have hlr : (refs rs).length = rs.length := List.length_map _;have hrl : rs.length ≤ 100000 := by rw [← h5, List.length_map] at hro; exact hro
  have hu := z2X hr;refine ⟨_, (zd (zo (i := 2) jZ.nd rfl (Or.inr rfl) (zy C_law_asking hr.m rfl (zk (zh zj (pv 0) za (fun _ _ => rfl)) (zb (pv 1) ze))))
    (zd (yb (j := 3) rfl jZ.nd rfl (Or.inl rfl) (CompSc.of (sx := zl yH) (NX := ["_law_state", "_law_seed", "_law_condition", "_law_rows", "_law_line"]) (fr := ["_law_condition", "_law_state"]) (ix := [2, 0]) rfl rfl (by decide +kernel)) (zX (zh zj (pv 0) za (fun _ _ => rfl))) (fun _ _ _ _ _ _ => (z1j (yl (zy C_law_true hr.m rfl (zb (pv 1) (zk (zh (kw (K := K) rfl) (pv 2) za (fun _ _ => rfl)) (zb (pv 0) ze))))))) (fun _ _ _ _ _ _ => (pv 0)))
    (zd (kK (z1u (zw (z4Y hu) (pv 3) (zI ze) (zC _)) (zw z4W (zp zS (pv 1) za) za (zC _)))
      (zd (zo (i := 2) jZ.nd rfl (Or.inr rfl) (zK (zv zn (zb (pv 2) ze))))
      (zg (zo (i := 3) jZ.nd rfl (Or.inl rfl) (jq yR rfl T.list PyProof.Rows.boot_list (zk (zh zj (pv 0) za (fun _ _ => rfl)) ze)))))
      zE)
    (zd (zo (i := 4) jZ.nd rfl (Or.inl rfl) (zp zi (zp zi (zp zi (zp zi zn (zy C_law_spelt hr.m rfl (zb (pv 2) ze))) zn) (zh zj (pv 0) za (fun _ _ => rfl))) zn))
    (zg (zB (zK (j8 (zK (zv zn (zb (pv 2) (zk (zh zj (pv 0) za (fun _ _ => rfl)) ze)))) (zb (pv 4) (zk (zh zj (pv 0) za (fun _ _ => rfl)) (zb (pv 3) ze))))))))))), ?_⟩
  refine ⟨_, rfl, p, _, _, _, rfl, rfl, SqT.of h1, jx, _, rfl, hp, seed, zc th q, rfl, h3, hne, fun cv c H1 s1 hc sm sz => ?_⟩;have g1 := s1 _ _ h1;have g4 := h4.same s1;refine ⟨_, rfl, p, _, _, _, rfl, rfl, SqT.of g1, z0h, rp, rfl, ⟨_, SqL.of g4.1⟩, ?_⟩;refine z02 (xs := refs rs) (fun i ys H' => zF H1 H' ∧ ys = refs ((rs.take i).filter fun r => ev (zc th q) r.2 c)) ⟨zF.refl _, rfl⟩ ?_ ?_ ?_
  · rintro i ys H' hi ⟨sm', rfl⟩;refine ⟨SqL.of (sm' _ _ g4.1), zH ?_⟩;have := List.length_filter_le (fun r : Addr × List Int => ev (zc th q) r.2 c) (rs.take i);rw [List.length_map];rw [List.length_take] at this;omega
  · rintro i x ys H' hi ⟨sm', rfl⟩;have hir : i < rs.length := by
      have := (List.getElem?_eq_some_iff.mp hi).1
      rwa [hlr] at this
    rw [jO hir] at hi;cases hi;have t := s1.trans sm';have hrow := (g4.2 _ (List.getElem_mem hir)).2;have hlen : rs[i].2.length = (zc th q).length := jw TT hok _ (by rw [← h5]; exact List.mem_map.mpr ⟨_, List.getElem_mem hir, rfl⟩);refine ⟨_, rfl, _, rfl, p, _, _, _, rfl, rfl, SqT.of (t _ _ h1), jx, _, rfl, cv, hp, rs[i].1, zc th q, rs[i].2, c, rfl, hc.same sm', sm, t _ _ h3, sm' _ _ hrow, hlen, by omega, fun H3 s3 => ⟨_, rfl, ?_⟩⟩;have ft := z0e (fun r : Addr × List Int => ev (zc th q) r.2 c) rs (List.getElem?_eq_getElem hir);cases hev : ev (zc th q) rs[i].2 c with
    | true =>
      refine ifT rfl ?_;refine ⟨_, rfl, sm'.trans s3, ?_⟩;rw [ft, hev, if_pos rfl];simp [refs]
    | false =>
      refine ifF rfl ?_;refine ⟨sm'.trans s3, ?_⟩;rw [ft, hev];simp
  · rintro ys H' ⟨sm', rfl⟩ np hnp;rw [hlr, List.take_length];refine zf (upd _ np _) rfl hnp fun H2 n2 x2 => ?_
    have rp0 := jX hnp n2 x2 fun r m => sm' _ _ (g4.2 r (List.mem_filter.mp m).1).2
    have s2 := s1.trans (sm'.trans n2);have hc2 := hc.same (sm'.trans n2);have g2 := s2 _ _ h1;have j2 := h4.same s2;refine ⟨fun σ H3 => ∃ (cv' : V) (c' : Cond) (np' : Addr) (fs : List (Addr × List Int)), σ = [some (.ref p), some (.int seed), some cv', some (.ref np'), none] ∧ zF H H3 ∧ zN H3 c' cv' ∧ jo (zc th q) c' ∧ c'.size ≤ 6 ∧ RowsAt H3 np' fs ∧ fs.map (·.2) = rowsOf th tr (.pick c' q), ?_, ?_⟩
    · refine ⟨_, rfl, zq (by show 0 ≤ _; decide), fun ep hep => ?_⟩;refine zf (upd _ ep _) rfl hep fun H3 n3 x3 => ?_
      refine ⟨np, ep, _, rfl, rfl, SqL.of (n3 _ _ x2), SqL.of x3, _, rfl, _, ⟨_, rfl, _, _, rfl, rfl, (by show (0 : Int) < 3; decide), _, _, rfl, rfl, _, rfl, rfl, rfl⟩, ?_⟩;have s3 := s2.trans n3;refine yM (fun hb => ?_) (fun hb => ?_)
      · rw [Bool.and_eq_true] at hb;have hnil : (rs.filter fun r => ev (zc th q) r.2 c) = [] := by
          have := hb.1;rw [List.isEmpty_iff] at this;exact List.map_eq_nil_iff.mp this
        refine ⟨_, rfl, zq (by show 2 ≤ _; decide), fun kp hkp => ?_⟩;refine zf (upd _ kp _) rfl hkp fun H4 n4 x4 => ?_
        have s4 := s3.trans n4;refine ⟨_, rfl, p, _, _, _, rfl, rfl, SqT.of (s4 _ _ h1), z0h, rp, _, rfl, .inl (SqL.of (h4.same s4).1), fun dp hdp => ?_⟩;have j4 := h4.same s4;refine zf (upd _ dp _) rfl hdp fun H5 n5 x5 => ?_
        have rp1 := jX hdp n5 x5 fun r m => (j4.2 r m).2
        refine ⟨_, .no c, dp, rs, rfl, s4.trans n5, ⟨kp, cv, rfl, n5 _ _ x4, hc2.same (n3.trans (n4.trans n5))⟩, sm, by simp only [Cond.size]; omega, rp1, ?_⟩
        show _ = (rowsOf th tr q).filter fun r => ev (zc th q) r (.no c)
        rw [h5, eq_comm, List.filter_eq_self];intro r hr';rw [← h5] at hr';obtain ⟨x, hx, rfl⟩ := List.mem_map.mp hr';have := List.filter_eq_nil_iff.mp hnil x hx
        show (!ev (zc th q) x.2 c) = true
        simpa using this
      · refine ⟨_, c, np, _, rfl, s3, hc2.same n3, sm, by omega, rp0.same n3, ?_⟩;rw [z7K, h5]
        rfl
    · rintro σ H3 ⟨cv', c', np', fs, rfl, s3, hc3, sm3, sz3, rp3, e3⟩;have ls := yN hnl sm3;have g3 := s3 _ _ h1;refine ⟨_, rfl, cv', zc th q, c', rfl, hc3, sm3, hnl, by omega, by omega, fun H4 s4 => ?_⟩;have g4' := s4 _ _ g3;refine ⟨_, _, rfl, rfl, by (walk_at "sl"), _, _, rfl, rfl, by (walk_at "sl"), _, rfl, p, _, _, _, rfl, rfl, SqT.of g4', jd, _, _, rfl, rfl, by (walk_at "sl"), _, _, rfl, rfl, by (walk_at "sl"), ?_⟩;refine ⟨_, rfl, _, rfl, p, _, _, _, rfl, rfl, SqT.of g4', zQ, zq (by show 3 ≤ _; decide), fun qp hqp => ?_⟩;refine zf (upd _ qp _) rfl hqp fun H5 n5 x5 => ?_
      refine ⟨_, rfl, _, rfl, p, _, _, _, rfl, rfl, SqT.of (n5 _ _ g4'), jx, _, rfl, zq (by show 4 ≤ _; decide), fun sp hsp => ?_⟩;refine zf (upd _ sp _) rfl hsp fun H6 n6 x6 => ?_
      have s46 := s4.trans (n5.trans n6);have s6 := s3.trans s46;exact fin _ c' _ s6 ⟨sp, _, hp, np', fs, rfl, x6, ⟨qp, cv', qv, rfl, n6 _ _ x5, hc3.same s46, h2.same s6⟩, s6 _ _ h3, rp3.same s46, e3⟩ sm3 sz3

theorem z0n {xs : List V} {m : Int} (h : 0 ≤ m) : z0Z xs none (some m) = xs.take m.toNat := by
  unfold z0Z;rw [HT.sIx_none, List.drop_zero, Nat.sub_zero];have e : HT.sIx xs.length xs.length (some m) = min m.toNat xs.length := by
    show (if m < 0 then (m + (xs.length : Int)).toNat else min m.toNat xs.length) = _
    rw [if_neg (by omega)]
  rw [e, List.take_eq_take_iff];omega
theorem z6O {xs : List Int} {i : Int} (hx : ∀ m ∈ xs, m ∈ kO) (h0 : 0 ≤ i) (h1 : i < (xs.length : Int)) : ∃ m ∈ kO, atI (xs.map V.int) i = some (.int m) := by
  obtain ⟨h, e⟩ := z5U (xs := xs.map V.int) h0 (by rw [List.length_map]; exact h1);have h' : i.toNat < xs.length := by simpa using h
  refine ⟨xs[i.toNat], hx _ (List.getElem_mem _), ?_⟩;rw [e, List.getElem_map]
noncomputable def z6P : List Int := [9, 1, 5, 3, 12, 7, 0, 10 ^ 9]
noncomputable def z6v : List Int := [4, 0, 2, 3, 8, 7, 10 ^ 9]
theorem z7X : ∀ m ∈ z6P, m ∈ kO := by decide +kernel
theorem z8B : ∀ m ∈ z6v, m ∈ kO := by decide +kernel
theorem zai : (z6P.length : Int) = 8 := rfl
theorem zau : (z6v.length : Int) = 7 := rfl
theorem z8b (i : Int) : ∃ m ∈ kO, atI (z6P.map V.int) (i % 8) = some (.int m) := z6O z7X (z0w (by decide)).1 (by rw [zai]; exact (z0w (by decide)).2)
theorem z8J (i : Int) : ∃ m ∈ kO, atI (z6v.map V.int) (i % 7) = some (.int m) := z6O z8B (z0w (by decide)).1 (by rw [zau]; exact (z0w (by decide)).2)
theorem zaX {H0 : Hp} {l0 : Addr} (x0 : H0 l0 = some (HO.lst [V.int 9, V.int 1, V.int 5, V.int 3, V.int 12, V.int 7, V.int 0, V.int ((10 : Int) ^ (9 : Int).toNat)])) : H0 l0 = some (.lst (z6P.map V.int)) := x0
theorem zb8 {H0 : Hp} {l0 : Addr} (x0 : H0 l0 = some (HO.lst [V.int 4, V.int 0, V.int 2, V.int 3, V.int 8, V.int 7, V.int ((10 : Int) ^ (9 : Int).toNat)])) : H0 l0 = some (.lst (z6v.map V.int)) := x0
theorem z3Q : ∀ m ∈ kO, 0 ≤ m := by decide +kernel
theorem z5t {m : Int} (h : m ∈ kO) : z84 (.int m) (toString m) := .inl ⟨m, rfl, (kD m h).2, rfl⟩
noncomputable def z1k (K : PySem.W.Frag) : Sp := fun vs H Q _ => ∃ (th : Str → List Str) (tr : Str → List (List Int)) (q : Qn) (v : V) (seed : Int), vs = [v, .int seed] ∧ yD th tr H v q ∧ (zA q).length ≤ 4000000 ∧
  ∀ (v' : V) (q' : Qn) (H' : Hp), zF H H' → yD th tr H' v' q' → (∃ n ∈ kO, q' = .first n q ∨ ∃ m ∈ kO, q' = .first m (.first n q)) → Q v' H'
theorem z48 {H : Hp} {rp : Addr} {rs : List (Addr × List Int)} (n : Nat) (h : RowsAt H rp rs) : ∀ r ∈ rs.take n, H r.1 = some (.lst (r.2.map V.int)) := fun r m => (h.2 r (List.mem_of_mem_take m)).2
theorem jb : FnScope ["_law_state", "_law_seed", "_law_many", "_law_line", "_law_question", "_law_rows", "_law_more"] ["_law_state", "_law_seed"] (zl kA) := ⟨rfl, rfl, rfl, by decide +kernel, rfl, by decide +kernel, by decide +kernel⟩
theorem z2N (F : Fun K "_law_headed" "_law_headed" kA f fd) (T : Txt K mg) : FnOk P w K mg base CX0 1 f fd ["_law_state", "_law_seed"] (z1k K) := by
  refine F.ok jb (fun vs H Q E h => ?_) (fun cdv A outer s H vs Q E hr h => ?_)
  · obtain ⟨th, tr, q, v, seed, rfl, _⟩ := h
    rfl
  obtain ⟨th, tr, q, v, seed, rfl, hst, hli, fin⟩ := h;obtain ⟨p, qv, hp, rp, rs, rfl, h1, h2, h3, h4, h5⟩ := hst;obtain ⟨m, mm, e1⟩ := z8b (seed / 2);obtain ⟨m', mm', e2⟩ := z8J (seed / 16 + seed);have ll := (kD m mm).1;have ll' := (kD m' mm').1;have p0 := z3Q m mm;have p0' := z3Q m' mm';refine ⟨_, (zd (zo (i := 2) jb.nd rfl (Or.inl rfl) (zh zz (zI (zv za (zv za (zv za (zv za (zv za (zv za (zv za (ya (z2z ⟨by decide, by decide, by decide⟩) ze))))))))) (zp zS (zp jQ (pv 1) za) za) (fun _ _ => rfl)))
    (zd (zo (i := 3) jb.nd rfl (Or.inl rfl) (zp zi (zp zi (zp zi (zp zi zn (jq z0U rfl T.str PyProof.Rows.boot_str (zb (pv 2) ze))) zn) (zh zj (pv 0) za (fun _ _ => rfl))) zn))
    (zd (zo (i := 4) jb.nd rfl (Or.inl rfl) (zK (zv zn (zb (pv 2) (zk (zh zj (pv 0) za (fun _ _ => rfl)) ze)))))
    (zd (zo (i := 5) jb.nd rfl (Or.inl rfl) (jn yy (zh zj (pv 0) za (fun _ _ => rfl)) jS (jG (pv 2))))
    (zd (zO (zw zT (zp zS (pv 1) za) za (zC _))
      (zd (zo (i := 6) jb.nd rfl (Or.inl rfl) (zh zz (zI (zv za (zv za (zv za (zv za (zv za (zv za (ya (z2z ⟨by decide, by decide, by decide⟩) ze)))))))) (zp zS (zp yp (zp jQ (pv 1) za) (pv 1)) za) (fun _ _ => rfl)))
      (zd (zo (i := 3) jb.nd rfl (Or.inl rfl) (zp zi (zp zi (zp zi (zp zi zn (jq z0U rfl T.str PyProof.Rows.boot_str (zb (pv 6) ze))) zn) (pv 3)) zn))
      (zd (zo (i := 4) jb.nd rfl (Or.inl rfl) (zK (zv zn (zb (pv 6) (zb (pv 4) ze)))))
      (zg (zo (i := 5) jb.nd rfl (Or.inl rfl) (jn yy (pv 5) jS (jG (pv 6))))))))
      zE)
    (zg (zB (zK (zb (pv 4) (zb (pv 3) (zk (zh zj (pv 0) za (fun _ _ => rfl)) (zb (pv 5) ze)))))))))))), ?_⟩
  refine ⟨zq (by show 8 ≤ _; decide), fun l0 f0 => ?_⟩;refine zf (upd _ l0 _) rfl f0 fun H0 n0 x0 => ?_
  replace x0 := zaX x0;refine ⟨_, rfl, _, _, rfl, rfl, ⟨by decide, by decide⟩, _, _, rfl, rfl, (by show (0 : Int) < 8; decide), l0, _, _, _, rfl, rfl, SqL.of x0, e1, ?_⟩;refine ⟨_, rfl, _, _, rfl, z5t mm, _, _, rfl, rfl, by (walk_at "sl"), _, _, rfl, rfl, by (walk_at "sl"), _, rfl, p, _, _, _, rfl, rfl, SqT.of (n0 _ _ h1), jd, _, _, rfl, rfl, by (walk_at "sl"), _, _, rfl, rfl, by (walk_at "sl"), ?_⟩;refine ⟨_, rfl, _, rfl, p, _, _, _, rfl, rfl, SqT.of (n0 _ _ h1), zQ, zq (by show 3 ≤ _; decide), fun q1 f1 => ?_⟩;refine zf (upd _ q1 _) rfl f1 fun H1 n1 x1 => ?_
  have s1 := n0.trans n1;have j1 := h4.same s1;refine ⟨_, rfl, p, _, _, _, rfl, rfl, SqT.of (s1 _ _ h1), z0h, _, rfl, _, rfl, rp, _, rfl, SqL.of j1.1, fun r2 f2 => ?_⟩;rw [z0n p0, ← List.map_take];refine zf (upd _ r2 _) rfl f2 fun H2 n2 x2 => ?_
  have s2 := s1.trans n2;have w2 := jX f2 n2 x2 (z48 _ j1);have qa2 : QAt H2 (.first m q) (.ref q1) := ⟨q1, qv, rfl, n2 _ _ x1, h2.same s2⟩;have er2 : (rs.take m.toNat).map (·.2) = rowsOf th tr (.first m q) := by
    rw [List.map_take, h5]
    rfl
  have hln : (zA (.first m q)).length ≤ 4000100 := by simp only [zA]; (walk_at "sl")
  refine ⟨_, rfl, _, _, rfl, rfl, (by show (0 : Int) < 2; decide), rfl, _, rfl, ?_⟩;refine yM (fun hb => ?_) (fun hb => ?_)
  · refine ⟨zq (by show 7 ≤ _; decide), fun l3 f3 => ?_⟩;refine zf (upd _ l3 _) rfl f3 fun H3 n3 x3 => ?_
    replace x3 := zb8 x3;refine ⟨_, rfl, _, _, rfl, rfl, ⟨by decide, by decide⟩, _, rfl, _, _, rfl, rfl, _, _, rfl, rfl, (by show (0 : Int) < 7; decide), l3, _, _, _, rfl, rfl, SqL.of x3, e2, ?_⟩;refine ⟨_, rfl, _, _, rfl, z5t mm', _, _, rfl, rfl, by (walk_at "sl"), _, _, rfl, rfl, by (walk_at "sl"), _, rfl, _, (zA (.first m q)), rfl, rfl, by (walk_at "sl"), _, _, rfl, rfl, by (walk_at "sl"), ?_⟩;refine ⟨_, rfl, _, rfl, zq (by show 3 ≤ _; decide), fun q4 f4 => ?_⟩;refine zf (upd _ q4 _) rfl f4 fun H4 n4 x4 => ?_
    have s24 := n3.trans n4;have w4 := w2.same s24;refine ⟨_, rfl, _, rfl, _, rfl, r2, _, rfl, SqL.of w4.1, fun r5 f5 => ?_⟩;rw [z0n p0', ← List.map_take];refine zf (upd _ r5 _) rfl f5 fun H5 n5 x5 => ?_
    have w5 := jX f5 n5 x5 (z48 _ w4);have s25 := s24.trans n5;have s5 := s2.trans s25;refine ⟨_, rfl, _, rfl, _, rfl, p, _, _, _, rfl, rfl, SqT.of (s5 _ _ h1), jx, _, rfl, zq (by show 4 ≤ _; decide), fun sp f6 => ?_⟩;refine zf (upd _ sp _) rfl f6 fun H6 n6 x6 => ?_
    have s6 := s5.trans n6;refine fin _ (.first m' (.first m q)) _ s6 ⟨sp, _, hp, r5, _, rfl, x6, ⟨q4, _, rfl, n6 _ _ (n5 _ _ x4), qa2.same (s25.trans n6)⟩, s6 _ _ h3, w5.same n6, ?_⟩ ⟨m, mm, .inr ⟨m', mm', rfl⟩⟩;rw [List.map_take, er2]
    rfl
  · refine ⟨_, rfl, _, rfl, _, rfl, p, _, _, _, rfl, rfl, SqT.of (s2 _ _ h1), jx, _, rfl, zq (by show 4 ≤ _; decide), fun sp f6 => ?_⟩;refine zf (upd _ sp _) rfl f6 fun H6 n6 x6 => ?_
    have s6 := s2.trans n6;exact fin _ (.first m q) _ s6 ⟨sp, _, hp, r2, _, rfl, x6, qa2.same n6, s6 _ _ h3, w2.same n6, er2⟩ ⟨m, mm, .inl rfl⟩

theorem z6h {th : Str → List Str} {tr : Str → List (List Int)} {H H' : Hp} {sp qp hp np x y : Addr} {qo qt : Qn} {qv rv : V} {fs gs : List (Addr × List Int)} (s : zF H H') (hsp : H' sp = some (.tup [.ref qp, .str (zA (.both qo qt)), .ref hp, .ref np])) (hqp : H' qp = some (.tup [.str "both", qv, rv])) (h1 : QAt H' qo qv) (h2 : QAt H' qt rv)
    (hh : H' hp = some (.lst ((zc th qo).map V.str))) (hr : RowsAt H' np (fs ++ gs)) (e1 : fs.map (·.2) = rowsOf th tr qo) (e2 : gs.map (·.2) = rowsOf th tr qt) : yD th tr H' (.ref sp) (.both qo qt) :=
  ⟨sp, _, hp, np, _, rfl, hsp, ⟨qp, qv, rv, rfl, hqp, h1, h2⟩, hh, hr, by rw [List.map_append, e1, e2]; rfl⟩
theorem z5w {H H' : Hp} {np a b : Addr} {fs gs : List (Addr × List Int)} (hnp : H np = none) (n : zF H H') (x : H' np = some (.lst (refs fs ++ refs gs))) (h1 : RowsAt H a fs) (h2 : RowsAt H b gs) : RowsAt H' np (fs ++ gs) :=
  jX hnp n (by rw [x]; simp [refs]) fun r m => by
    rcases List.mem_append.mp m with m | m
    · exact (h1.2 r m).2
    · exact (h2.2 r m).2
theorem z2W {th : Str → List Str} {c : Cond} {q : Qn} (hnl : ∀ s ∈ zc th q, s.length ≤ 10) (sm : jo (zc th q) c) (sz : c.size ≤ 6) : (zA (.pick c q)).length ≤ (zA q).length + 1000 := by
  have ls := yN hnl sm;simp only [zA]
  (walk_at "sl")
noncomputable def z1Q (K : PySem.W.Frag) : Sp := fun vs H Q _ => ∃ (th : Str → List Str) (tr : Str → List (List Int)) (q : Qn) (v : V) (seed : Int), vs = [v, .int seed] ∧ TabOk th tr ∧ yD th tr H v q ∧ okQ th q ∧ (zA q).length ≤ 4000000 ∧ (rowsOf th tr q).length ≤ 100000 ∧
  ∀ (v' : V) (q' : Qn) (c : Cond) (H' : Hp), zF H H' → yD th tr H' v' q' → jo (zc th q) c → c.size ≤ 6 → (q' = .both q (.pick c q) ∨ q' = .both (.pick c q) q) → Q v' H'
theorem jJ : FnScope ["_law_state", "_law_seed", "_law_one", "_law_other", "_law_line"] ["_law_state", "_law_seed"] (zl yU) := ⟨rfl, rfl, rfl, by decide +kernel, rfl, by decide +kernel, by decide +kernel⟩
theorem z2r (F : Fun K "_law_doubled" "_law_doubled" yU f fd) (T : Txt K mg) (C_law_picked : Kn P w K mg base 8 "_law_picked" ["_law_state", "_law_seed"] (z1I K)) : FnOk P w K mg base CX0 9 f fd ["_law_state", "_law_seed"] (z1Q K) := by
  refine F.ok jJ (fun vs H Q E h => ?_) (fun cdv A outer s H vs Q E hr h => ?_)
  · obtain ⟨th, tr, q, v, seed, rfl, _⟩ := h
    rfl
  obtain ⟨th, tr, q, v, seed, rfl, TT, hst, hok, hli, hro, fin⟩ := h;have hnl := zY TT hok;refine ⟨_, (zd (zo (i := 2) jJ.nd rfl (Or.inl rfl) (pv 0))
    (zd (zo (i := 3) jJ.nd rfl (Or.inl rfl) (zy C_law_picked hr.m rfl (zb (pv 0) (zb (pv 1) ze))))
    (zd (kK (zw zT (zp zS (zp jQ (pv 1) za) za) za (zC _))
      (zd (zo (i := 2) jJ.nd rfl (Or.inl rfl) (pv 3))
      (zg (zo (i := 3) jJ.nd rfl (Or.inl rfl) (pv 0))))
      zE)
    (zd (zo (i := 4) jJ.nd rfl (Or.inl rfl) (zp zi (zp zi (zp zi (zp zi zn (zh zj (pv 2) za (fun _ _ => rfl))) zn) (zh zj (pv 3) za (fun _ _ => rfl))) zn))
    (zg (zB (zK (j8 (zK (zv zn (zk (zh zj (pv 2) za (fun _ _ => rfl)) (zk (zh zj (pv 3) za (fun _ _ => rfl)) ze)))) (zb (pv 4) (zk (zh zj (pv 0) za (fun _ _ => rfl)) (ya (zp yS (zh zj (pv 2) za (fun _ _ => rfl)) (zh zj (pv 3) za (fun _ _ => rfl))) ze))))))))))), ?_⟩
  refine ⟨_, rfl, ?_⟩;refine ⟨_, rfl, _, rfl, th, tr, q, v, seed, rfl, TT, hst, hok, hli, hro, fun v1 c H1 s1 st1 sm sz => ?_⟩;have hst1 := hst.same s1;have lp := z2W hnl sm sz;have rl : (rowsOf th tr (.pick c q)).length ≤ 100000 := Nat.le_trans (List.length_filter_le _ _) hro;have eh : zc th (.pick c q) = zc th q := rfl;refine ⟨fun σ H3 => ∃ (ov tv : V) (qo qt : Qn), σ = [some v, some (.int seed), some ov, some tv, none] ∧ H3 = H1 ∧ yD th tr H1 ov qo ∧ yD th tr H1 tv qt ∧ (zA qo).length ≤ 4001000 ∧ (zA qt).length ≤ 4001000 ∧ (rowsOf th tr qo).length ≤ 100000 ∧ (rowsOf th tr qt).length ≤ 100000 ∧ zc th qo = zc th q ∧ ((qo = q ∧ qt = .pick c q) ∨ (qo = .pick c q ∧ qt = q)), ?_, ?_⟩
  · refine ⟨_, rfl, _, _, rfl, rfl, ⟨by decide, by decide⟩, _, _, rfl, rfl, (by show (0 : Int) < 2; decide), rfl, _, rfl, ?_⟩;refine yM (fun hb => ?_) (fun hb => ?_)
    · refine ⟨_, rfl, ?_⟩;refine ⟨_, rfl, ?_⟩;exact ⟨_, _, _, _, rfl, rfl, st1, hst1, by omega, by omega, rl, hro, eh, .inr ⟨rfl, rfl⟩⟩
    · exact ⟨_, _, _, _, rfl, rfl, hst1, st1, by omega, by omega, hro, rl, rfl, .inl ⟨rfl, rfl⟩⟩
  · rintro σ H3 ⟨ov, tv, qo, qt, rfl, rfl, sto, stt, lo, lt, ro, rt, eo, hq⟩;obtain ⟨p, qv, hp, rp, rs, rfl, h1, h2, h3, h4, h5⟩ := hst1;obtain ⟨p1, qv1, hp1, rp1, rs1, rfl, a1, a2, a3, a4, a5⟩ := sto;obtain ⟨p2, qv2, hp2, rp2, rs2, rfl, b1, b2, b3, b4, b5⟩ := stt;have l1 : rs1.length ≤ 100000 := by rw [← a5, List.length_map] at ro; exact ro
    have l2 : rs2.length ≤ 100000 := by rw [← b5, List.length_map] at rt; exact rt
    refine ⟨_, rfl, p1, _, _, _, rfl, rfl, SqT.of a1, jd, _, _, rfl, rfl, by (walk_at "sl"), _, _, rfl, rfl, by (walk_at "sl"), _, rfl, p2, _, _, _, rfl, rfl, SqT.of b1, jd, _, _, rfl, rfl, by (walk_at "sl"), _, _, rfl, rfl, by (walk_at "sl"), ?_⟩;refine ⟨_, rfl, p1, _, _, _, rfl, rfl, SqT.of a1, zQ, _, rfl, p2, _, _, _, rfl, rfl, SqT.of b1, zQ, zq (by show 3 ≤ _; decide), fun qp hqp => ?_⟩;refine zf (upd _ qp _) rfl hqp fun H5 n5 x5 => ?_
    refine ⟨_, rfl, _, rfl, p, _, _, _, rfl, rfl, SqT.of (n5 _ _ h1), jx, _, rfl, p1, _, _, _, rfl, rfl, SqT.of (n5 _ _ a1), z0h, _, rfl, p2, _, _, _, rfl, rfl, SqT.of (n5 _ _ b1), z0h, _, _, _, _, rfl, rfl, n5 _ _ a4.1, n5 _ _ b4.1, zq (by rw [List.length_map, List.length_map]; omega), fun np hnp => ?_⟩;refine zf (upd _ np _) rfl hnp fun H6 n6 x6 => ?_
    have rc := z5w hnp n6 x6 (a4.same n5) (b4.same n5);refine ⟨zq (by show 4 ≤ _; decide), fun sp hsp => ?_⟩;refine zf (upd _ sp _) rfl hsp fun H7 n7 x7 => ?_
    have s37 := n5.trans (n6.trans n7);refine fin _ (.both qo qt) c _ (s1.trans s37) (z6h (x := p) (y := p) s37 x7 (n7 _ _ (n6 _ _ x5)) (a2.same s37) (b2.same s37) (by rw [eo]; exact s37 _ _ h3) (rc.same n7) a5 b5) sm sz ?_;rcases hq with ⟨rfl, rfl⟩ | ⟨rfl, rfl⟩
    · exact .inl rfl
    · exact .inr rfl
noncomputable def TabAt (th : Str → List Str) (tr : Str → List (List Int)) (H : Hp) (v : V) (n : Str) : Prop := ∃ (p hp rp : Addr) (rs : List (Addr × List Int)), v = .ref p ∧ H p = some (.tup [.str n, .ref hp, .ref rp]) ∧
  H hp = some (.lst ((th n).map V.str)) ∧ RowsAt H rp rs ∧ rs.map (·.2) = tr n
theorem TabAt.same {th : Str → List Str} {tr : Str → List (List Int)} {H H' : Hp} {v : V} {n : Str} (h : TabAt th tr H v n) (e : zF H H') : TabAt th tr H' v n := by
  obtain ⟨p, hp, rp, rs, rfl, h1, h3, h4, h5⟩ := h;exact ⟨p, hp, rp, rs, rfl, e _ _ h1, e _ _ h3, h4.same e, h5⟩
noncomputable def z2U (K : PySem.W.Frag) : Sp := fun vs H Q _ => ∃ (th : Str → List Str) (tr : Str → List (List Int)) (q : Qn) (n : Str) (v tv : V) (seed : Int), vs = [v, tv, .int seed] ∧ yD th tr H v q ∧ TabAt th tr H tv n ∧ zc th q = th n ∧ n.length ≤ 10 ∧ (zA q).length ≤ 4000000 ∧ (rowsOf th tr q).length ≤ 100000 ∧ (tr n).length ≤ 100000 ∧
  ∀ (v' : V) (q' : Qn) (H' : Hp), zF H H' → yD th tr H' v' q' → (q' = .both q (.table n) ∨ q' = .both (.table n) q) → Q v' H'
theorem jV : FnScope ["_law_state", "_law_table", "_law_seed", "_law_one", "_law_other", "_law_line"] ["_law_state", "_law_table", "_law_seed"] (zl kr) := ⟨rfl, rfl, rfl, by decide +kernel, rfl, by decide +kernel, by decide +kernel⟩
theorem z2Y (F : Fun K "_law_beside" "_law_beside" kr f fd) (T : Txt K mg) : FnOk P w K mg base CX0 1 f fd ["_law_state", "_law_table", "_law_seed"] (z2U K) := by
  refine F.ok jV (fun vs H Q E h => ?_) (fun cdv A outer s H vs Q E hr h => ?_)
  · obtain ⟨th, tr, q, n, v, tv, seed, rfl, _⟩ := h
    rfl
  obtain ⟨th, tr, q, n, v, tv, seed, rfl, hst, ht, ehn, nl, hli, hro, hrt, fin⟩ := h;obtain ⟨tp, thp, trp, ts, rfl, t1, t3, t4, t5⟩ := ht;refine ⟨_, (zd (zo (i := 3) jV.nd rfl (Or.inl rfl) (pv 0))
    (zd (zo (i := 4) jV.nd rfl (Or.inl rfl) (zK (j8 (zK (zv zn (zk (zh zj (pv 1) za (fun _ _ => rfl)) ze))) (zk (zh zj (pv 1) za (fun _ _ => rfl)) (zk (zh zj (pv 1) za (fun _ _ => rfl)) (zk (zh zj (pv 1) za (fun _ _ => rfl)) ze))))))
    (zd (kK (zw zT (zp zS (zp jQ (pv 2) za) za) za (zC _))
      (zd (zo (i := 3) jV.nd rfl (Or.inl rfl) (pv 4))
      (zg (zo (i := 4) jV.nd rfl (Or.inl rfl) (pv 0))))
      zE)
    (zd (zo (i := 5) jV.nd rfl (Or.inl rfl) (zp zi (zp zi (zp zi (zp zi zn (zh zj (pv 3) za (fun _ _ => rfl))) zn) (zh zj (pv 4) za (fun _ _ => rfl))) zn))
    (zg (zB (zK (j8 (zK (zv zn (zk (zh zj (pv 3) za (fun _ _ => rfl)) (zk (zh zj (pv 4) za (fun _ _ => rfl)) ze)))) (zb (pv 5) (zk (zh zj (pv 0) za (fun _ _ => rfl)) (ya (zp yS (zh zj (pv 3) za (fun _ _ => rfl)) (zh zj (pv 4) za (fun _ _ => rfl))) ze))))))))))), ?_⟩
  refine ⟨_, rfl, ?_⟩;refine ⟨_, rfl, tp, _, _, _, rfl, rfl, SqT.of t1, zQ, zq (by show 2 ≤ _; decide), fun qp hqp => ?_⟩;refine zf (upd _ qp _) rfl hqp fun H1 n1 x1 => ?_
  have t1' := n1 _ _ t1;refine ⟨_, rfl, tp, _, _, _, rfl, rfl, SqT.of t1', zQ, _, rfl, tp, _, _, _, rfl, rfl, SqT.of t1', jd, _, rfl, tp, _, _, _, rfl, rfl, SqT.of t1', jx, zq (by show 4 ≤ _; decide), fun sp0 hsp0 => ?_⟩;refine zf (upd _ sp0 _) rfl hsp0 fun H2 n2 x2 => ?_
  have s2 := n1.trans n2;have st2 : yD th tr H2 (.ref sp0) (.table n) := ⟨sp0, _, thp, trp, ts, rfl, x2, ⟨qp, rfl, n2 _ _ x1⟩, s2 _ _ t3, t4.same s2, t5⟩;have hst2 := hst.same s2;have ltn : (zA (.table n)).length ≤ 10 := nl;refine ⟨fun σ H3 => ∃ (ov uv : V) (qo qt : Qn), σ = [some v, some (.ref tp), some (.int seed), some ov, some uv, none] ∧ H3 = H2 ∧ yD th tr H2 ov qo ∧ yD th tr H2 uv qt ∧ (zA qo).length ≤ 4000000 ∧ (zA qt).length ≤ 4000000 ∧ (rowsOf th tr qo).length ≤ 100000 ∧ (rowsOf th tr qt).length ≤ 100000 ∧ zc th qo = zc th q ∧ ((qo = q ∧ qt = .table n) ∨ (qo = .table n ∧ qt = q)), ?_, ?_⟩
  · refine ⟨_, rfl, _, _, rfl, rfl, ⟨by decide, by decide⟩, _, _, rfl, rfl, (by show (0 : Int) < 2; decide), rfl, _, rfl, ?_⟩;refine yM (fun hb => ?_) (fun hb => ?_)
    · refine ⟨_, rfl, ?_⟩;refine ⟨_, rfl, ?_⟩;exact ⟨_, _, _, _, rfl, rfl, st2, hst2, by omega, by omega, hrt, hro, ehn.symm, .inr ⟨rfl, rfl⟩⟩
    · exact ⟨_, _, _, _, rfl, rfl, hst2, st2, by omega, by omega, hro, hrt, rfl, .inl ⟨rfl, rfl⟩⟩
  · rintro σ H3 ⟨ov, uv, qo, qt, rfl, rfl, sto, stt, lo, lt, ro, rt, eo, hq⟩;obtain ⟨p, qv, hp, rp, rs, rfl, h1, h2, h3, h4, h5⟩ := hst2;obtain ⟨p1, qv1, hp1, rp1, rs1, rfl, a1, a2, a3, a4, a5⟩ := sto;obtain ⟨p2, qv2, hp2, rp2, rs2, rfl, b1, b2, b3, b4, b5⟩ := stt;have l1 : rs1.length ≤ 100000 := by rw [← a5, List.length_map] at ro; exact ro
    have l2 : rs2.length ≤ 100000 := by rw [← b5, List.length_map] at rt; exact rt
    refine ⟨_, rfl, p1, _, _, _, rfl, rfl, SqT.of a1, jd, _, _, rfl, rfl, by (walk_at "sl"), _, _, rfl, rfl, by (walk_at "sl"), _, rfl, p2, _, _, _, rfl, rfl, SqT.of b1, jd, _, _, rfl, rfl, by (walk_at "sl"), _, _, rfl, rfl, by (walk_at "sl"), ?_⟩;refine ⟨_, rfl, p1, _, _, _, rfl, rfl, SqT.of a1, zQ, _, rfl, p2, _, _, _, rfl, rfl, SqT.of b1, zQ, zq (by show 3 ≤ _; decide), fun qp' hqp' => ?_⟩;refine zf (upd _ qp' _) rfl hqp' fun H5 n5 x5 => ?_
    refine ⟨_, rfl, _, rfl, p, _, _, _, rfl, rfl, SqT.of (n5 _ _ h1), jx, _, rfl, p1, _, _, _, rfl, rfl, SqT.of (n5 _ _ a1), z0h, _, rfl, p2, _, _, _, rfl, rfl, SqT.of (n5 _ _ b1), z0h, _, _, _, _, rfl, rfl, n5 _ _ a4.1, n5 _ _ b4.1, zq (by rw [List.length_map, List.length_map]; omega), fun np hnp => ?_⟩;refine zf (upd _ np _) rfl hnp fun H6 n6 x6 => ?_
    have rc := z5w hnp n6 x6 (a4.same n5) (b4.same n5);refine ⟨zq (by show 4 ≤ _; decide), fun sp hsp => ?_⟩;refine zf (upd _ sp _) rfl hsp fun H7 n7 x7 => ?_
    have s37 := n5.trans (n6.trans n7);refine fin _ (.both qo qt) _ (s2.trans s37) (z6h (x := p) (y := p) s37 x7 (n7 _ _ (n6 _ _ x5)) (a2.same s37) (b2.same s37) (by rw [eo]; exact s37 _ _ h3) (rc.same n7) a5 b5) ?_;rcases hq with ⟨rfl, rfl⟩ | ⟨rfl, rfl⟩
    · exact .inl rfl
    · exact .inr rfl
theorem z0q {rs : List (Addr × List Int)} {i : Nat} (h : i < rs.length) : (rs.map (·.2))[i]? = some rs[i].2 := by
  rw [List.getElem?_map, List.getElem?_eq_getElem h]
  rfl
theorem z1t {rs : List (Addr × List Int)} {i : Nat} (h : i < rs.length) : (rs.map (·.2)).getD i [] = rs[i].2 := by
  rw [List.getD_eq_getElem?_getD, z0q h]
  rfl
theorem z4Z {xs : List V} {m : Int} (h : 0 ≤ m) : z0Z xs (some m) none = xs.drop m.toNat := by
  unfold z0Z;rw [HT.sIx_none];have e : HT.sIx xs.length 0 (some m) = min m.toNat xs.length := by
    show (if m < 0 then (m + (xs.length : Int)).toNat else min m.toNat xs.length) = _
    rw [if_neg (by omega)]
  rw [e];by_cases hm : m.toNat ≤ xs.length
  · rw [Nat.min_eq_left hm, List.take_of_length_le (by rw [List.length_drop]; omega)]
  · rw [Nat.min_eq_right (by omega), List.drop_of_length_le (Nat.le_refl _), List.drop_of_length_le (by omega), List.take_nil]
theorem z4X {α : Type} (hs : List α) (t : Nat) : (hs.drop t ++ hs.take t).Perm hs := by
  have := List.perm_append_comm (l₁ := hs.drop t) (l₂ := hs.take t)
  rwa [List.take_append_drop] at this
theorem z6W {ns : List Str} (h : ∀ n ∈ ns, n.length ≤ 10) : (ns.map (·.length)).sum ≤ 10 * ns.length := by
  induction ns with
  | nil => exact Nat.le_refl _
  | cons n ns ih =>
    have h1 := h n List.mem_cons_self;have h2 := ih fun m hm => h m (List.mem_cons_of_mem _ hm)
    rw [List.map_cons, List.sum_cons, List.length_cons];omega
theorem z2G : ∀ {ns : List Str}, (∀ n ∈ ns, n.length ≤ 10) → (Str.join " " ns).length ≤ 11 * ns.length
  | [], _ => by simp [Str.join]; decide
  | [n], h => by
    have := h n List.mem_cons_self;simp only [Str.join, List.length_singleton];omega
  | n :: m :: ns, h => by
    have h1 := h n List.mem_cons_self;have h2 := z2G (ns := m :: ns) fun x hx => h x (List.mem_cons_of_mem _ hx)
    simp only [Str.join, Str.length_append, z0s];have e : (n :: m :: ns).length = (m :: ns).length + 1 := rfl;omega
noncomputable def z1X (K : PySem.W.Frag) : Sp := fun vs H Q _ => ∃ (th : Str → List Str) (tr : Str → List (List Int)) (q : Qn) (v : V) (seed : Int), vs = [v, .int seed] ∧ TabOk th tr ∧ yD th tr H v q ∧ okQ th q ∧ (zA q).length ≤ 4000000 ∧ (rowsOf th tr q).length ≤ 100000 ∧ (zc th q).length ≤ 1000 ∧
  ∀ (v' : V) (ns : List Str) (H' : Hp), zF H H' → yD th tr H' v' (.cols ns q) → ns ≠ [] → ns.Nodup → (∀ n ∈ ns, n ∈ zc th q) → Q v' H'
theorem ju : FnScope ["_law_state", "_law_seed", "_law_turn", "_law_names", "_law_spots", "_law_rows", "_law_line"] ["_law_state", "_law_seed"] (zl jB) := ⟨rfl, rfl, rfl, by decide +kernel, rfl, by decide +kernel, by decide +kernel⟩
theorem z2t (F : Fun K "_law_columns" "_law_columns" jB f fd) (T : Txt K mg) : FnOk P w K mg base CX0 1 f fd ["_law_state", "_law_seed"] (z1X K) := by
  refine F.ok ju (fun vs H Q E h => ?_) (fun cdv A outer s H vs Q E hr h => ?_)
  · obtain ⟨th, tr, q, v, seed, rfl, _⟩ := h
    rfl
  obtain ⟨th, tr, q, v, seed, rfl, TT, hst, hok, hli, hro, hhl, fin⟩ := h;obtain ⟨p, qv, hp, rp, rs, rfl, h1, h2, h3, h4, h5⟩ := hst;obtain ⟨hne, hnd⟩ := jm TT hok;have hnl := zY TT hok;have hrl := jw TT hok;have hlr : (refs rs).length = rs.length := List.length_map _;have hrc : rs.length ≤ 100000 := by rw [← h5, List.length_map] at hro; exact hro
  generalize hhs : zc th q = hs at *;have hlen : (0 : Int) < (((hs.map V.str).length : Nat) : Int) := by
    have := List.length_pos_iff.mpr hne;rw [List.length_map]; omega
  refine ⟨_, (zd (zo (i := 2) ju.nd rfl (Or.inl rfl) (zp zS (pv 1) (zx zu rfl T.len PySem.boot_len (zk (zh zj (pv 0) za (fun _ _ => rfl)) ze))))
    (zd (zo (i := 3) ju.nd rfl (Or.inl rfl) (zp yS (jn yy (zh zj (pv 0) za (fun _ _ => rfl)) (jG (pv 2)) jS) (jn yy (zh zj (pv 0) za (fun _ _ => rfl)) jS (jG (pv 2)))))
    (zd (kK (z1u (zw zT (zp zS (zp jQ (pv 1) za) za) za (zC _)) (zw z4W (zx zu rfl T.len PySem.boot_len (zb (pv 3) ze)) za (zC _)))
      (zg (zo (i := 3) ju.nd rfl (Or.inl rfl) (jn yy (pv 3) (jG za) jS)))
      zE)
    (zd (zo (i := 4) ju.nd rfl (Or.inr rfl) (jR rfl (CompSc.of (sx := zl jB) (NX := ["_law_state", "_law_seed", "_law_turn", "_law_names", "_law_spots", "_law_rows", "_law_line"]) (fr := ["_law_state"]) (ix := [0]) rfl rfl (by decide +kernel)) (zX (pv 3)) (fun _ _ _ _ _ _ => jr) (fun _ _ _ _ _ _ => (z8w (K := K) rfl PySem.F.plainAttrs_list PySem.F.slot_list_index PySem.F.type_list_index (z3L (K := K) rfl) (zh (kw (K := K) rfl) (pv 1) za (fun _ _ => rfl)) (zb (pv 0) ze)))))
    (zd (yb (j := 5) rfl ju.nd rfl (Or.inl rfl) (CompSc.of (sx := zl jB) (NX := ["_law_state", "_law_seed", "_law_turn", "_law_names", "_law_spots", "_law_rows", "_law_line"]) (fr := ["_law_spots"]) (ix := [4]) rfl rfl (by decide +kernel)) (zX (zh zj (pv 0) za (fun _ _ => rfl))) (fun _ _ _ _ _ _ => jr) (fun _ _ _ _ _ _ => (jR rfl (CompSc.of2 (sx := zl jB) (NX := ["_law_row", "_law_spots"]) (fr := ["_law_row"]) (ix := [0]) rfl rfl (by decide +kernel)) (z5m (K := K) rfl (pv 1)) (fun _ _ _ _ _ _ => jr) (fun _ _ _ _ _ _ => (zh (yj (K := K) rfl) (pv 1) (pv 0) (fun _ _ => rfl))))))
    (zd (zo (i := 6) ju.nd rfl (Or.inl rfl) (zp zi (zp zi (zp zi (zp zi zn (jF PySem.F.plainAttrs_str PySem.F.slot_str_join PySem.F.type_str_join z6n zn (zb (pv 3) ze))) zn) (zh zj (pv 0) za (fun _ _ => rfl))) zn))
    (zg (zB (zK (j8 (zK (zv zn (zV (jq z3v rfl T.tuple PyProof.Rows.boot_tuple (zb (pv 3) ze)) (zk (zh zj (pv 0) za (fun _ _ => rfl)) ze)))) (zb (pv 6) (zb (pv 3) (zb (pv 5) ze))))))))))))), ?_⟩
  refine ⟨_, rfl, _, rfl, p, _, _, _, rfl, rfl, SqT.of h1, jx, hp, _, rfl, .inl (SqL.of h3), _, _, rfl, rfl, hlen, ?_⟩;obtain ⟨t0, t1⟩ := z0w (i := seed) hlen;obtain ⟨tn, htn⟩ : ∃ tn, seed % (((hs.map V.str).length : Nat) : Int) = tn := ⟨_, rfl⟩
  dsimp -proj only;rw [htn] at t0 t1 ⊢;refine ⟨_, rfl, p, _, _, _, rfl, rfl, SqT.of h1, jx, _, rfl, _, rfl, hp, _, rfl, SqL.of h3, fun l1 f1 => ?_⟩;rw [z4Z t0, ← List.map_drop];refine zf (upd _ l1 _) rfl f1 fun H1 n1 x1 => ?_
  refine ⟨_, rfl, p, _, _, _, rfl, rfl, SqT.of (n1 _ _ h1), jx, _, rfl, _, rfl, hp, _, rfl, SqL.of (n1 _ _ h3), fun l2 f2 => ?_⟩;rw [z0n t0, ← List.map_take];refine zf (upd _ l2 _) rfl f2 fun H2 n2 x2 => ?_
  refine ⟨_, _, _, _, rfl, rfl, n2 _ _ x1, x2, zq (by rw [List.length_map, List.length_map, List.length_drop, List.length_take]; omega), fun l3 f3 => ?_⟩;rw [← List.map_append];refine zf (upd _ l3 _) rfl f3 fun H3 n3 x3 => ?_
  have pm := z4X hs tn.toNat
  have nl : (hs.drop tn.toNat ++ hs.take tn.toNat).length = hs.length := pm.length_eq;have nnd : (hs.drop tn.toNat ++ hs.take tn.toNat).Nodup := pm.nodup_iff.mpr hnd;have nmem : ∀ n ∈ hs.drop tn.toNat ++ hs.take tn.toNat, n ∈ hs := fun n hn => pm.mem_iff.mp hn
  generalize hs.drop tn.toNat ++ hs.take tn.toNat = ns0 at x3 nl nnd nmem;have s3 := n1.trans (n2.trans n3);refine ⟨fun σ H4 => ∃ (np : Addr) (ns : List Str), σ = [some (.ref p), some (.int seed), some (.int tn), some (.ref np), none, none, none] ∧ zF H H4 ∧ H4 np = some (.lst (ns.map V.str)) ∧ ns ≠ [] ∧ ns.Nodup ∧ (∀ n ∈ ns, n ∈ hs) ∧ ns.length ≤ 1000, ?_, ?_⟩
  · refine ⟨_, rfl, _, _, rfl, rfl, ⟨by decide, by decide⟩, _, _, rfl, rfl, (by show (0 : Int) < 3; decide), rfl, _, rfl, _, ⟨_, rfl, l3, _, rfl, .inl (SqL.of x3), _, _, rfl, rfl, _, rfl, rfl, rfl⟩, ?_⟩;refine yM (fun hb => ?_) (fun hb => ?_)
    · rw [Bool.and_eq_true] at hb;have hb2 := of_decide_eq_true hb.2;rw [List.length_map] at hb2;refine ⟨_, rfl, 1, rfl, l3, _, rfl, SqL.of x3, fun l4 f4 => ?_⟩;rw [z4Z (by decide), ← List.map_drop];refine zf (upd _ l4 _) rfl f4 fun H4 n4 x4 => ?_
      refine ⟨l4, ns0.drop 1, rfl, s3.trans n4, x4, fun z => ?_, nnd.sublist (List.drop_sublist _ _), fun n hn => nmem n (List.mem_of_mem_drop hn), by rw [List.length_drop]; omega⟩;have := congrArg List.length z;rw [List.length_drop] at this;simp at this;omega
    · refine ⟨l3, ns0, rfl, s3, x3, fun z => ?_, nnd, nmem, by omega⟩;rw [z] at nl;exact hne (List.length_eq_zero_iff.mp nl.symm)
  · rintro σ H4 ⟨np, ns, rfl, s4, x4, nne, nnd, nmem, nlen⟩;have nl10 : ∀ n ∈ ns, n.length ≤ 10 := fun n hn => hnl n (nmem n hn)
    refine ⟨_, rfl, np, rfl, ⟨_, SqL.of x4⟩, ?_⟩;refine jD (xs := ns.map V.str) (fun i ys H' => zF H4 H' ∧ ys = (ns.take i).map fun n => V.int ((hs.idxOf n : Nat) : Int)) ⟨zF.refl _, rfl⟩ ?_ ?_ ?_
    · rintro i ys H' hi ⟨sm', rfl⟩;exact ⟨SqL.of (sm' _ _ x4), zH (by rw [List.length_map, List.length_take]; omega)⟩
    · rintro i x ys H' hi ⟨sm', rfl⟩;have hin : i < ns.length := by
        have := (List.getElem?_eq_some_iff.mp hi).1
        rwa [List.length_map] at this
      rw [List.getElem?_map, List.getElem?_eq_getElem hin] at hi;cases hi;have hi0 := j9 (nmem _ (List.getElem_mem hin));have g3 := (s4.trans sm') _ _ h3;refine ⟨_, rfl, p, _, _, _, rfl, rfl, SqT.of ((s4.trans sm') _ _ h1), jx, .inl ⟨rfl, _, SqL.of g3⟩, _, rfl, hp, _, _, hs.idxOf ns[i], rfl, rfl, SqL.of g3, rfl, zU hs, hi0.1, hi0.2, sm', ?_⟩;rw [List.take_add_one, List.getElem?_eq_getElem hin, List.map_append]
      rfl
    · rintro ys H' ⟨sm', rfl⟩ sp hsp;rw [List.length_map, List.take_length];refine zf (upd _ sp _) rfl hsp fun H5 n5 x5 => ?_
      have s5 := s4.trans (sm'.trans n5);have j5 := h4.same s5;refine ⟨_, rfl, p, _, _, _, rfl, rfl, SqT.of (s5 _ _ h1), z0h, rp, rfl, ⟨_, SqL.of j5.1⟩, ?_⟩;refine jD (xs := refs rs) (fun i ys H' => zF H5 H' ∧ ∃ qs : List (Addr × List Int), ys = refs qs ∧ qs.length = i ∧ (∀ r ∈ qs, H' r.1 = some (.lst (r.2.map V.int))) ∧ qs.map (·.2) = ((rs.map (·.2)).take i).map fun r => ns.map fun n => r.getD (hs.idxOf n) 0) ⟨zF.refl _, [], rfl, rfl, fun _ z => (by cases z), rfl⟩ ?_ ?_ ?_
      · rintro i ys H6 hi ⟨s6, qs, rfl, hq, _, _⟩;rw [hlr] at hi;exact ⟨SqL.of (s6 _ _ j5.1), zH (by rw [List.length_map]; omega)⟩
      · rintro i x ys H6 hi ⟨s6, qs, rfl, hq, hqa, hqe⟩;have hir : i < rs.length := by
          have := (List.getElem?_eq_some_iff.mp hi).1
          rwa [hlr] at this
        rw [jO hir] at hi;cases hi;have hrow := (j5.2 _ (List.getElem_mem hir)).2;have hlen' : rs[i].2.length = hs.length := hrl _ (by rw [← h5]; exact List.mem_map.mpr ⟨_, List.getElem_mem hir, rfl⟩);refine ⟨_, rfl, sp, rfl, ⟨_, SqL.of (s6 _ _ x5)⟩, ?_⟩;refine jD (xs := ns.map fun n => V.int ((hs.idxOf n : Nat) : Int)) (fun m ys H' => H' = H6 ∧ ys = ((ns.take m).map fun n => rs[i].2.getD (hs.idxOf n) 0).map V.int) ⟨rfl, rfl⟩ ?_ ?_ ?_
        · rintro m ys H7 hm ⟨rfl, rfl⟩;exact ⟨SqL.of (s6 _ _ x5), zH (by rw [List.length_map, List.length_map, List.length_take]; omega)⟩
        · rintro m x ys H7 hm ⟨rfl, rfl⟩;have hmn : m < ns.length := by
            have := (List.getElem?_eq_some_iff.mp hm).1
            rwa [List.length_map] at this
          rw [List.getElem?_map, List.getElem?_eq_getElem hmn] at hm;cases hm;have hix : hs.idxOf ns[m] < rs[i].2.length := by rw [hlen']; exact List.idxOf_lt_length_iff.mpr (nmem _ (List.getElem_mem hmn))
          refine ⟨_, rfl, _, rfl, rs[i].1, _, _, _, rfl, rfl, SqL.of (s6 _ _ hrow), zW (int_at hix), rfl, ?_⟩;rw [List.take_add_one, List.getElem?_eq_getElem hmn, List.map_append, List.map_append]
          rfl
        · rintro ys H7 ⟨rfl, rfl⟩ lp hlp;rw [List.length_map, List.take_length];have n8 := zG hlp (.lst ((ns.map fun n => rs[i].2.getD (hs.idxOf n) 0).map V.int));refine ⟨s6.trans n8, qs ++ [(lp, ns.map fun n => rs[i].2.getD (hs.idxOf n) 0)], by simp [refs], by rw [List.length_append, hq]; rfl, fun r m => ?_, ?_⟩
          · rcases List.mem_append.mp m with m | m
            · exact n8 _ _ (hqa r m)
            · rw [List.mem_singleton.mp m];exact zm
          · rw [List.map_append, hqe, List.take_add_one, z0q hir, List.map_append]
            rfl
      · rintro ys H6 ⟨s6, qs, rfl, hq, hqa, hqe⟩ wp hwp;rw [hlr, show (rs.map (·.2)).take rs.length = rs.map (·.2) from List.take_of_length_le (by rw [List.length_map]; exact Nat.le_refl _)] at hqe;refine zf (upd _ wp _) rfl hwp fun H7 n7 x7 => ?_
        have w7 := jX hwp n7 x7 hqa;have s57 := s6.trans n7;have s47 := sm'.trans (n5.trans s57);have s7 := s4.trans s47;have jl := z2G nl10;have sl := z6W nl10;refine ⟨rfl, _, rfl, _, np, ns, rfl, rfl, SqL.of (s47 _ _ x4), by rw [z0s]; omega, _, _, rfl, rfl, by (walk_at "sl"), _, _, rfl, rfl, by (walk_at "sl"), _, rfl, p, _, _, _, rfl, rfl, SqT.of (s7 _ _ h1), jd, _, _, rfl, rfl, by (walk_at "sl"), _, _, rfl, rfl, by (walk_at "sl"), ?_⟩;refine ⟨_, rfl, np, _, rfl, .inl ⟨SqL.of (s47 _ _ x4), fun tp htp => ?_⟩⟩;refine zf (upd _ tp _) rfl htp fun H8 n8 x8 => ?_
        refine ⟨_, rfl, p, _, _, _, rfl, rfl, SqT.of (n8 _ _ (s7 _ _ h1)), zQ, zq (by show 3 ≤ _; decide), fun qp hqp => ?_⟩;refine zf (upd _ qp _) rfl hqp fun H9 n9 x9 => ?_
        refine ⟨_, rfl, _, rfl, _, rfl, zq (by show 4 ≤ _; decide), fun sp' hsp' => ?_⟩;refine zf (upd _ sp' _) rfl hsp' fun H10 n10 x10 => ?_
        have s710 := n8.trans (n9.trans n10);have s10 := s7.trans s710;refine fin _ ns _ s10 ⟨sp', _, np, wp, qs, rfl, x10, ⟨qp, tp, qv, rfl, n10 _ _ x9, n10 _ _ (n9 _ _ x8), h2.same s10⟩, (s47.trans s710) _ _ x4, w7.same s710, ?_⟩ nne nnd nmem;rw [hqe, h5];simp only [rowsOf, hhs]
noncomputable def z1G (K : PySem.W.Frag) : Sp := fun vs H Q _ => ∃ (th : Str → List Str) (tr : Str → List (List Int)) (q : Qn) (v : V) (seed : Int), vs = [v, .int seed] ∧ TabOk th tr ∧ yD th tr H v q ∧ okQ th q ∧ (zA q).length ≤ 4000000 ∧ (rowsOf th tr q).length < 64 ∧
  ∀ (v' : V) (n : Str) (H' : Hp), zF H H' → yD th tr H' v' (.sort n q) → n ∈ zc th q → Q v' H'
theorem jE : FnScope ["_law_state", "_law_seed", "_law_name", "_law_spot", "_law_keys", "_law_rows", "_law_pair", "_law_line"] ["_law_state", "_law_seed"] (zl yE) := ⟨rfl, rfl, rfl, by decide +kernel, rfl, by decide +kernel, by decide +kernel⟩
theorem z39 (F : Fun K "_law_sorted" "_law_sorted" yE f fd) (T : Txt K mg) : FnOk P w K mg base CX0 1 f fd ["_law_state", "_law_seed"] (z1G K) := by
  refine F.ok jE (fun vs H Q E h => ?_) (fun cdv A outer s H vs Q E hr h => ?_)
  · obtain ⟨th, tr, q, v, seed, rfl, _⟩ := h
    rfl
  obtain ⟨th, tr, q, v, seed, rfl, TT, hst, hok, hli, hro, fin⟩ := h;obtain ⟨p, qv, hp, rp, rs, rfl, h1, h2, h3, h4, h5⟩ := hst;obtain ⟨hne, hnd⟩ := jm TT hok;have hnl := zY TT hok;have hrl := jw TT hok;have hlr : (refs rs).length = rs.length := List.length_map _;have hrc : rs.length < 64 := by rw [← h5, List.length_map] at hro; exact hro
  have hlen : (0 : Int) < ((((zc th q).map V.str).length : Nat) : Int) := by
    have := List.length_pos_iff.mpr hne;rw [List.length_map]; omega
  obtain ⟨nm, mn, en⟩ := z0t (i := seed) hne;have hi0 := j9 mn;have nl := hnl nm mn;refine ⟨_, (zd (zo (i := 2) jE.nd rfl (Or.inl rfl) (zh zz (zh zj (pv 0) za (fun _ _ => rfl)) (zp zS (pv 1) (zx zu rfl T.len PySem.boot_len (zk (zh zj (pv 0) za (fun _ _ => rfl)) ze))) (fun _ _ => rfl)))
    (zd (zo (i := 3) jE.nd rfl (Or.inr rfl) (jF PySem.F.plainAttrs_list PySem.F.slot_list_index PySem.F.type_list_index jY (zh zj (pv 0) za (fun _ _ => rfl)) (zb (pv 2) ze)))
    (zd (yb (j := 4) rfl jE.nd rfl (Or.inl rfl) (CompSc.of (sx := zl yE) (NX := ["_law_state", "_law_seed", "_law_name", "_law_spot", "_law_keys", "_law_rows", "_law_pair", "_law_line"]) (fr := ["_law_state", "_law_spot"]) (ix := [0, 3]) rfl rfl (by decide +kernel)) (jW rfl T.range (zV (zx zu rfl T.len PySem.boot_len (zk (zh zj (pv 0) za (fun _ _ => rfl)) ze)) ze)) (fun _ _ _ _ _ _ => jr) (fun _ _ _ _ _ _ => (zK (zk (zh (yj (K := K) rfl) (zh (yj (K := K) rfl) (zh (kw (K := K) rfl) (pv 1) za (fun _ _ => rfl)) (pv 0) (fun _ _ => rfl)) (pv 2) (fun _ _ => rfl)) (zb (pv 0) ze)))))
    (zd (zo (i := 5) jE.nd rfl (Or.inl rfl) (zI ze))
    (zd (jH PassesOwn.never rfl (zX (zx (z4j rfl) rfl T.sorted PyProof.Rows.boot_sorted (zb (pv 4) ze))) (jf (i := 6) jE.nd rfl (Or.inl rfl))
      (zg (jc (jF PySem.F.plainAttrs_list PySem.F.slot_list_append PySem.F.type_list_append jz (pv 5) (zk (zh zz (zh zj (pv 0) za (fun _ _ => rfl)) (zh zj (pv 6) za (fun _ _ => rfl)) (fun _ _ => rfl)) ze)))))
    (zd (zo (i := 7) jE.nd rfl (Or.inl rfl) (zp zi (zp zi (zp zi (zp zi zn (pv 2)) zn) (zh zj (pv 0) za (fun _ _ => rfl))) zn))
    (zg (zB (zK (j8 (zK (zv zn (zb (pv 2) (zk (zh zj (pv 0) za (fun _ _ => rfl)) ze)))) (zb (pv 7) (zk (zh zj (pv 0) za (fun _ _ => rfl)) (zb (pv 5) ze))))))))))))), ?_⟩
  refine ⟨_, rfl, p, _, _, _, rfl, rfl, SqT.of h1, jx, _, rfl, _, rfl, p, _, _, _, rfl, rfl, SqT.of h1, jx, hp, _, rfl, .inl (SqL.of h3), _, _, rfl, rfl, hlen, hp, _, _, _, rfl, rfl, SqL.of h3, en, ?_⟩;refine ⟨_, rfl, p, _, _, _, rfl, rfl, SqT.of h1, jx, .inl ⟨rfl, _, SqL.of h3⟩, _, rfl, hp, _, _, (zc th q).idxOf nm, rfl, rfl, SqL.of h3, rfl, zU _, hi0.1, hi0.2, ?_⟩;have sl : ∀ r ∈ rs, (zc th q).idxOf nm < r.2.length := fun r m => by
    rw [hrl r.2 (by rw [← h5]; exact List.mem_map.mpr ⟨_, m, rfl⟩)];exact List.idxOf_lt_length_iff.mpr mn
  generalize hsp : (zc th q).idxOf nm = sp at sl;refine ⟨_, rfl, p, _, _, _, rfl, rfl, SqT.of h1, z0h, rp, _, rfl, .inl (SqL.of h4.1), _, rfl, by omega, by rw [hlr]; omega, ?_⟩;refine kE (lo := 0) (n := (((refs rs).length : Nat) : Int).toNat) (fun i ys H' => zF H H' ∧ ∃ ps : List PQ, ys = (ps.map fun p => V.ref p.1) ∧ ps.length = i ∧ (∀ p ∈ ps, H' p.1 = some (.tup [.int p.2.1, .int p.2.2])) ∧ ∀ (m : Nat) (hm : m < ps.length), ps[m].2 = ((rs.getD m (0, [])).2.getD sp 0, (m : Int))) ⟨zF.refl _, [], rfl, rfl, fun _ z => (by cases z), fun m hm => absurd hm (Nat.not_lt_zero _)⟩ ?_ ?_ ?_
  · rintro i ys H' hi ⟨sm', ps, rfl, hq, _, _⟩;rw [Int.toNat_natCast, hlr] at hi;exact zH (by rw [List.length_map]; omega)
  · rintro i ys H' hi ⟨sm', ps, rfl, hq, hpa, hpe⟩;rw [Int.toNat_natCast, hlr] at hi;have hrow := sm' _ _ (h4.2 _ (List.getElem_mem hi)).2;refine ⟨_, rfl, p, _, _, _, rfl, rfl, SqT.of (sm' _ _ h1), z0h, _, rfl, rp, _, _, _, rfl, rfl, SqL.of (sm' _ _ h4.1), z4w hi, _, rfl, rs[i].1, _, _, _, rfl, rfl, SqL.of hrow, zW (int_at (sl _ (List.getElem_mem hi))), _, rfl, zq (by show 2 ≤ _; decide), fun tp htp => ?_⟩;have n1 := zG htp (.tup [V.int (rs[i].2.getD sp 0), V.int (0 + (i : Int))]);refine ⟨sm'.trans n1, ps ++ [(tp, rs[i].2.getD sp 0, 0 + (i : Int))], by simp, by rw [List.length_append, hq]; rfl, fun r m => ?_, fun m hm => ?_⟩
    · rcases List.mem_append.mp m with m | m
      · exact n1 _ _ (hpa r m)
      · rw [List.mem_singleton.mp m];exact zm
    · rw [List.length_append, List.length_singleton] at hm;by_cases hml : m < ps.length
      · rw [List.getElem_append_left hml];exact hpe m hml
      · have em : m = ps.length := by omega
        subst em;rw [List.getElem_append_right (Nat.le_refl _)];simp only [Nat.sub_self, List.getElem_cons_zero];rw [hq, List.getD_eq_getElem?_getD (l := rs), List.getElem?_eq_getElem hi, Int.zero_add]
        rfl
  · rintro ys H' ⟨sm', ps, rfl, hq, hpa, hpe⟩ kp hkp;rw [Int.toNat_natCast, hlr] at hq;refine zf (upd _ kp _) rfl hkp fun H1 n1 x1 => ?_
    have s1 := sm'.trans n1;refine ⟨zq (by show 0 ≤ _; decide), fun wp hwp => ?_⟩;refine zf (upd _ wp _) rfl hwp fun H2 n2 x2 => ?_
    have s2 := s1.trans n2;have fwp : H wp = none := s1.free hwp;refine ⟨_, rfl, kp, ps, rfl, SqL.of (n2 _ _ x1), fun p m => n2 _ _ (n1 _ _ (hpa p m)), by omega, fun dp is hdp pm pw => ?_⟩;have nwd : dp ≠ wp := (zr x2 hdp).symm;refine zf (upd _ dp _) rfl hdp fun H3 n3 x3 => ?_
    rw [hq] at pm;have mem : ∀ i ∈ is, i < rs.length := fun i hi => List.mem_range.mp (pm.mem_iff.mp hi)
    have pk : ∀ i, i < rs.length → (ps.getD i pq0).2 = ((rs.getD i (0, [])).2.getD sp 0, (i : Int)) := fun i hi => by
      rw [List.getD_eq_getElem?_getD, List.getElem?_eq_getElem (by omega)];exact hpe i (by omega)
    have s3 := s2.trans n3;refine ⟨dp, rfl, ⟨_, SqL.of x3⟩, jT (K := K) (a := dp) (xs := is.map fun i => V.ref (ps.getD i pq0).1) (fun i σ H' => ∃ o6 : Option V, σ = [some (.ref p), some (.int seed), some (.str nm), some (.int ((sp : Nat) : Int)), some (.ref kp), some (.ref wp), o6, none] ∧ zF H H' ∧ H' dp = some (.lst (is.map fun i => V.ref (ps.getD i pq0).1)) ∧ (∀ p ∈ ps, H' p.1 = some (.tup [.int p.2.1, .int p.2.2])) ∧
      RowsAt H' wp ((is.take i).map fun i => rs.getD i (0, []))) ⟨none, rfl, s3, x3, fun p m => n3 _ _ (n2 _ _ (n1 _ _ (hpa p m))), yi (n3 _ _ x2)⟩ (fun i σ H' _ ⟨_, _, _, z, _⟩ => SqL.of z) ?_ ?_⟩
    · rintro i x σ H4 hi ⟨o6, rfl, s4, d4, p4, w4⟩;have hii : i < is.length := by
        have := (List.getElem?_eq_some_iff.mp hi).1
        rwa [List.length_map] at this
      rw [List.getElem?_map, List.getElem?_eq_getElem hii] at hi;cases hi;have hir := mem _ (List.getElem_mem hii);have mp : ps.getD is[i] pq0 ∈ ps := by
        rw [List.getD_eq_getElem?_getD, List.getElem?_eq_getElem (by omega)];exact List.getElem_mem _
      have ek := pk _ hir;have e2 : (ps.getD is[i] pq0).2.2 = ((is[i] : Nat) : Int) := by rw [ek]
      have j4 := h4.same s4;have eg : rs.getD is[i] (0, []) = rs[is[i]] := by rw [List.getD_eq_getElem?_getD, List.getElem?_eq_getElem hir]; rfl
      refine ⟨_, rfl, .inl ⟨rfl, _, SqL.of w4.1⟩, _, rfl, p, _, _, _, rfl, rfl, SqT.of (s4 _ _ h1), z0h, _, rfl, _, _, _, _, rfl, rfl, SqT.of (p4 _ mp), jd, rp, _, _, V.ref rs[is[i]].1, rfl, rfl, SqL.of j4.1, by rw [e2]; exact zW (jO hir), wp, _, _, rfl, rfl, w4.1, zH (by rw [List.length_map, List.length_map, List.length_take, pm.length_eq, List.length_range]; omega), ?_⟩;refine ⟨_, rfl, s4.put fwp, by rw [zt nwd]; exact d4, fun q' m => by rw [zt (z2f (p4 q' m) w4.1 (by intro z; cases z))]; exact p4 q' m, ?_⟩;rw [List.take_add_one, List.getElem?_eq_getElem hii, List.map_append];have rr := (j4.2 _ (List.getElem_mem hir));have nwr : rs[is[i]].1 ≠ wp := fun z => by
        have := (h4.2 _ (List.getElem_mem hir)).2;rw [z, fwp] at this;cases this
      have := w4.push (q := rs[is[i]].1) (x := rs[is[i]].2) nwr rr.2
      show RowsAt _ wp (_ ++ [rs.getD is[i] (0, [])])
      rw [eg];exact this
    · rintro σ H4 ⟨o6, rfl, s4, d4, p4, w4⟩;rw [List.length_map, List.take_length] at w4;refine ⟨_, rfl, _, _, rfl, rfl, by (walk_at "sl"), _, _, rfl, rfl, by (walk_at "sl"), _, rfl, p, _, _, _, rfl, rfl, SqT.of (s4 _ _ h1), jd, _, _, rfl, rfl, by (walk_at "sl"), _, _, rfl, rfl, by (walk_at "sl"), ?_⟩;refine ⟨_, rfl, _, rfl, p, _, _, _, rfl, rfl, SqT.of (s4 _ _ h1), zQ, zq (by show 3 ≤ _; decide), fun qp hqp => ?_⟩;refine zf (upd _ qp _) rfl hqp fun H5 n5 x5 => ?_
      refine ⟨_, rfl, _, rfl, p, _, _, _, rfl, rfl, SqT.of (n5 _ _ (s4 _ _ h1)), jx, _, rfl, zq (by show 4 ≤ _; decide), fun sp' hsp' => ?_⟩;refine zf (upd _ sp' _) rfl hsp' fun H6 n6 x6 => ?_
      have s46 := n5.trans n6;have s6 := s4.trans s46;refine fin _ nm _ s6 ⟨sp', _, hp, wp, _, rfl, x6, ⟨qp, qv, rfl, n6 _ _ x5, h2.same s6⟩, s6 _ _ h3, w4.same s46, ?_⟩ mn
      show _ = z0L ((zc th q).idxOf nm) (rowsOf th tr q)
      rw [hsp, ← h5];unfold z0L;have e0 : is = z1P (z4P (rs.map (·.2)) sp) (rs.map (·.2)).length := by
        rw [List.length_map];refine z2h pm (List.pairwise_iff_getElem.mpr fun a b ha hb hab => ?_);have h0 := List.pairwise_iff_getElem.mp pw a b ha hb hab;have ka : ∀ i, i < rs.length → z4P (rs.map (·.2)) sp i = (rs.getD i (0, [])).2.getD sp 0 := fun i hi => by
          unfold z4P;rw [z1t hi, List.getD_eq_getElem?_getD (l := rs), List.getElem?_eq_getElem hi]
          rfl
        have ma := mem _ (List.getElem_mem ha);have mb := mem _ (List.getElem_mem hb);rw [pk _ ma, pk _ mb] at h0;have h0 := of_decide_eq_false h0;refine decide_eq_true ?_;rw [ka _ ma, ka _ mb];replace h0 : ¬ ((rs.getD is[b] (0, [])).2.getD sp 0 < (rs.getD is[a] (0, [])).2.getD sp 0 ∨ (rs.getD is[b] (0, [])).2.getD sp 0 = (rs.getD is[a] (0, [])).2.getD sp 0 ∧ ((is[b] : Nat) : Int) < ((is[a] : Nat) : Int)) := h0;omega
      rw [← e0, List.map_map];refine List.map_congr_left fun i hi => ?_
      have hir := mem i hi
      show (rs.getD i (0, [])).2 = _
      rw [z1t hir, List.getD_eq_getElem?_getD, List.getElem?_eq_getElem hir]
      rfl

theorem z5Q {s i : Nat} {rows : List (List Int)} {r : List Int} (h : rows[i]? = some r) : jA s (rows.take (i + 1)) = if r.getD s 0 ∈ jA s (rows.take i) then jA s (rows.take i) else jA s (rows.take i) ++ [r.getD s 0] := by
  unfold jA;rw [List.take_add_one, h, List.foldl_append]
  rfl
theorem z21 {s : Nat} (rows : List (List Int)) : (jA s rows).length ≤ rows.length := by
  have go : ∀ (rows : List (List Int)) (acc : List Int), (rows.foldl (fun acc r => if r.getD s 0 ∈ acc then acc else acc ++ [r.getD s 0]) acc).length ≤ acc.length + rows.length := by
    intro rows
    induction rows with
    | nil => intro acc; exact Nat.le_refl _
    | cons r rows ih =>
      intro acc;rw [List.foldl_cons, List.length_cons];refine Nat.le_trans (ih _) ?_;split
      · omega
      · rw [List.length_append, List.length_singleton]; omega
  have := go rows [];rw [List.length_nil, Nat.zero_add] at this;exact this
theorem z6H {x : Int} : ∀ {xs : List Int}, inV (.int x) (xs.map V.int) = decide (x ∈ xs)
  | [] => by simp [inV]
  | y :: ys => by
    have ih := z6H (x := x) (xs := ys);unfold inV at ih ⊢;rw [List.map_cons, List.any_cons, ih]
    show ((y == x) || decide (x ∈ ys)) = _
    by_cases h : y = x
    · subst h; simp
    · rw [show (y == x) = false by simpa using h, Bool.false_or];by_cases m : x ∈ ys
      · simp [m]
      · have hxy : ¬ x = y := fun z => h z.symm
        simp [m, hxy]
theorem z7c (xs : List Int) : (xs.map V.int).all kg = true := by
  rw [List.all_map];exact List.all_eq_true.mpr fun _ _ => rfl
noncomputable def z25 (K : PySem.W.Frag) : Sp := fun vs H Q _ => ∃ (th : Str → List Str) (tr : Str → List (List Int)) (q : Qn) (v : V) (seed : Int) (g : Str), vs = [v, .int seed, .str g] ∧ TabOk th tr ∧ yD th tr H v q ∧ okQ th q ∧ g.length = 1 ∧ (zA q).length ≤ 4000000 ∧ (rowsOf th tr q).length ≤ 100000 ∧
  ∀ (v' : V) (a b : Str) (H' : Hp), zF H H' → yD th tr H' v' (.group a b (("n" : Str) ++ g) (("s" : Str) ++ g) q) → a ∈ zc th q → b ∈ zc th q → Q v' H'
theorem zR : FnScope ["_law_state", "_law_seed", "_law_sign", "_law_by", "_law_of", "_law_spot", "_law_place", "_law_rows", "_law_row", "_law_same", "_law_total", "_law_names", "_law_line", "_law_question"] ["_law_state", "_law_seed", "_law_sign"] (zl jC) := ⟨rfl, rfl, rfl, by decide +kernel, rfl, by decide +kernel, by decide +kernel⟩
theorem z2v (F : Fun K "_law_counted" "_law_counted" jC f fd) (T : Txt K mg) : FnOk P w K mg base CX0 1 f fd ["_law_state", "_law_seed", "_law_sign"] (z25 K) := by
  refine F.ok zR (fun vs H Q E h => ?_) (fun cdv A outer s H vs Q E hr h => ?_)
  · obtain ⟨th, tr, q, v, seed, g, rfl, _⟩ := h
    rfl
  obtain ⟨th, tr, q, v, seed, g, rfl, TT, hst, hok, gl, hli, hro, fin⟩ := h;obtain ⟨p, qv, hp, rp, rs, rfl, h1, h2, h3, h4, h5⟩ := hst;obtain ⟨hne, hnd⟩ := jm TT hok;have hnl := zY TT hok;have hrl := jw TT hok;have hlr : (refs rs).length = rs.length := List.length_map _;have hrc : rs.length ≤ 100000 := by rw [← h5, List.length_map] at hro; exact hro
  have hlen : (0 : Int) < ((((zc th q).map V.str).length : Nat) : Int) := by
    have := List.length_pos_iff.mpr hne;rw [List.length_map]; omega
  obtain ⟨a, ma, ea⟩ := z0t (i := seed) hne;obtain ⟨b, mb, eb⟩ := z0t (i := seed / 2) hne;have ia := j9 ma;have ib := j9 mb;have la := hnl a ma;have lb := hnl b mb;refine ⟨_, (zd (zo (i := 3) zR.nd rfl (Or.inl rfl) (zh zz (zh zj (pv 0) za (fun _ _ => rfl)) (zp zS (pv 1) (zx zu rfl T.len PySem.boot_len (zk (zh zj (pv 0) za (fun _ _ => rfl)) ze))) (fun _ _ => rfl)))
    (zd (zo (i := 4) zR.nd rfl (Or.inl rfl) (zh zz (zh zj (pv 0) za (fun _ _ => rfl)) (zp zS (zp jQ (pv 1) za) (zx zu rfl T.len PySem.boot_len (zk (zh zj (pv 0) za (fun _ _ => rfl)) ze))) (fun _ _ => rfl)))
    (zd (zo (i := 5) zR.nd rfl (Or.inr rfl) (jF PySem.F.plainAttrs_list PySem.F.slot_list_index PySem.F.type_list_index jY (zh zj (pv 0) za (fun _ _ => rfl)) (zb (pv 3) ze)))
    (zd (zo (i := 6) zR.nd rfl (Or.inr rfl) (jF PySem.F.plainAttrs_list PySem.F.slot_list_index PySem.F.type_list_index jY (zh zj (pv 0) za (fun _ _ => rfl)) (zb (pv 4) ze)))
    (zd (zo (i := 7) zR.nd rfl (Or.inl rfl) (zI ze))
    (zd (jH PassesOwn.never rfl (zX (zh zj (pv 0) za (fun _ _ => rfl))) (jf (i := 8) zR.nd rfl (Or.inr rfl))
      (zg (zO (zw kR (zh zz (pv 8) (pv 5) (fun _ _ => rfl)) (jR rfl (CompSc.of (sx := zl jC) (NX := ["_law_state", "_law_seed", "_law_sign", "_law_by", "_law_of", "_law_spot", "_law_place", "_law_rows", "_law_row", "_law_same", "_law_total", "_law_names", "_law_line", "_law_question"]) (fr := []) (ix := []) rfl rfl (by decide +kernel)) (zX (pv 7)) (fun _ _ _ _ _ _ => jr) (fun _ _ _ _ _ _ => (zh (yj (K := K) rfl) (pv 0) za (fun _ _ => rfl)))) (by with_unfolding_all rfl))
        (zd (yb (j := 9) rfl zR.nd rfl (Or.inl rfl) (CompSc.of (sx := zl jC) (NX := ["_law_state", "_law_seed", "_law_sign", "_law_by", "_law_of", "_law_spot", "_law_place", "_law_rows", "_law_row", "_law_same", "_law_total", "_law_names", "_law_line", "_law_question"]) (fr := ["_law_spot", "_law_row"]) (ix := [5, 8]) rfl rfl (by decide +kernel)) (zX (zh zj (pv 0) za (fun _ _ => rfl))) (fun _ _ _ _ _ _ => (z1j (zw zT (zh (yj (K := K) rfl) (pv 0) (pv 1) (fun _ _ => rfl)) (zh (yj (K := K) rfl) (pv 2) (pv 1) (fun _ _ => rfl)) (zC _)))) (fun _ _ _ _ _ _ => (pv 0)))
        (zd (zo (i := 10) zR.nd rfl (Or.inl rfl) (zx (z0E rfl) rfl T.sum PyProof.Rows.boot_sum (z1g (jR rfl (CompSc.of (sx := zl jC) (NX := ["_law_state", "_law_seed", "_law_sign", "_law_by", "_law_of", "_law_spot", "_law_place", "_law_rows", "_law_row", "_law_same", "_law_total", "_law_names", "_law_line", "_law_question"]) (fr := ["_law_place"]) (ix := [6]) rfl rfl (by decide +kernel)) (zX (pv 9)) (fun _ _ _ _ _ _ => jr) (fun _ _ _ _ _ _ => (zh (yj (K := K) rfl) (pv 0) (pv 1) (fun _ _ => rfl)))) ze)))
        (zg (jc (jF PySem.F.plainAttrs_list PySem.F.slot_list_append PySem.F.type_list_append jz (pv 7) (yf (zI (zk (zh zz (pv 8) (pv 5) (fun _ _ => rfl)) (zV (zx zu rfl T.len PySem.boot_len (zb (pv 9) ze)) (zb (pv 10) ze)))) ze))))))
        zE)))
    (zd (zo (i := 11) zR.nd rfl (Or.inl rfl) (zp zi (zp zi (zp zi (zp zi (zp zi (zp zi (pv 3) zn) (pv 4)) zn) (pv 2)) zn) (pv 2)))
    (zd (zo (i := 12) zR.nd rfl (Or.inl rfl) (zp zi (zp zi (zp zi (zp zi zn (pv 11)) zn) (zh zj (pv 0) za (fun _ _ => rfl))) zn))
    (zd (zo (i := 13) zR.nd rfl (Or.inl rfl) (zK (zv zn (zb (pv 3) (zb (pv 4) (ya (zp zi zn (pv 2)) (ya (zp zi zn (pv 2)) (zk (zh zj (pv 0) za (fun _ _ => rfl)) ze))))))))
    (zg (zB (zK (zb (pv 13) (zb (pv 12) (yf (zI (zb (pv 3) (ya (zp zi zn (pv 2)) (ya (zp zi zn (pv 2)) ze)))) (zb (pv 7) ze)))))))))))))))), ?_⟩
  refine ⟨_, rfl, p, _, _, _, rfl, rfl, SqT.of h1, jx, _, rfl, _, rfl, p, _, _, _, rfl, rfl, SqT.of h1, jx, hp, _, rfl, .inl (SqL.of h3), _, _, rfl, rfl, hlen, hp, _, _, _, rfl, rfl, SqL.of h3, ea, ?_⟩;refine ⟨_, rfl, p, _, _, _, rfl, rfl, SqT.of h1, jx, _, rfl, _, _, rfl, rfl, ⟨by decide, by decide⟩, _, rfl, p, _, _, _, rfl, rfl, SqT.of h1, jx, hp, _, rfl, .inl (SqL.of h3), _, _, rfl, rfl, hlen, hp, _, _, _, rfl, rfl, SqL.of h3, eb, ?_⟩;refine ⟨_, rfl, p, _, _, _, rfl, rfl, SqT.of h1, jx, .inl ⟨rfl, _, SqL.of h3⟩, _, rfl, hp, _, _, (zc th q).idxOf a, rfl, rfl, SqL.of h3, rfl, zU _, ia.1, ia.2, ?_⟩;refine ⟨_, rfl, p, _, _, _, rfl, rfl, SqT.of h1, jx, .inl ⟨rfl, _, SqL.of h3⟩, _, rfl, hp, _, _, (zc th q).idxOf b, rfl, rfl, SqL.of h3, rfl, zU _, ib.1, ib.2, ?_⟩;have rw' : ∀ r ∈ rs, r.2.length = (zc th q).length := fun r m => hrl r.2 (by rw [← h5]; exact List.mem_map.mpr ⟨_, m, rfl⟩)
  have sla : ∀ r ∈ rs, (zc th q).idxOf a < r.2.length := fun r m => by rw [rw' r m]; exact List.idxOf_lt_length_iff.mpr ma
  have slb : ∀ r ∈ rs, (zc th q).idxOf b < r.2.length := fun r m => by rw [rw' r m]; exact List.idxOf_lt_length_iff.mpr mb
  generalize hsa : (zc th q).idxOf a = sa at sla;generalize hsb : (zc th q).idxOf b = sb at slb;refine ⟨zq (by show 0 ≤ _; decide), fun wp hwp => ?_⟩;refine zf (upd _ wp _) rfl hwp fun H1 n1 x1 => ?_
  have nrp : ∀ r ∈ rs, r.1 ≠ wp := fun r m => zr (h4.2 r m).2 hwp
  refine ⟨_, rfl, p, _, _, _, rfl, rfl, SqT.of (n1 _ _ h1), z0h, rp, rfl, ⟨_, SqL.of (n1 _ _ h4.1)⟩, jT (K := K) (a := rp) (xs := refs rs) (fun i σ H' => ∃ (qs : List (Addr × List Int)) (o8 o9 o10 : Option V), σ = [some (.ref p), some (.int seed), some (.str g), some (.str a), some (.str b), some (.int ((sa : Nat) : Int)), some (.int ((sb : Nat) : Int)), some (.ref wp), o8, o9, o10, none, none, none] ∧ zF H H' ∧ RowsAt H' wp qs ∧
    qs.map (·.2) = (jA sa ((rs.map (·.2)).take i)).map (yA sa sb (rs.map (·.2)))) ⟨[], none, none, none, rfl, n1, yi x1, rfl⟩ (fun i σ H' _ ⟨_, _, _, _, _, sm, _⟩ => SqL.of (sm _ _ h4.1)) ?_ ?_⟩
  · rintro i x σ H2 hi ⟨qs, o8, o9, o10, rfl, s2, w2, e2⟩;have hir : i < rs.length := by
      have := (List.getElem?_eq_some_iff.mp hi).1
      rwa [hlr] at this
    rw [jO hir] at hi;cases hi;have kl : (jA sa ((rs.map (·.2)).take i)).length ≤ 100000 := by
      have := z21 (s := sa) ((rs.map (·.2)).take i);rw [List.length_take, List.length_map] at this;omega
    have lq : qs.length = (jA sa ((rs.map (·.2)).take i)).length := by
      have := congrArg List.length e2
      rwa [List.length_map, List.length_map] at this
    have hlq : (refs qs).length = qs.length := List.length_map _;have kt := z5Q (s := sa) (z0q hir);have hR := s2 _ _ (h4.2 _ (List.getElem_mem hir)).2;have ssa := sla _ (List.getElem_mem hir);have qk : qs.map (fun r => r.2.getD 0 0) = jA sa ((rs.map (·.2)).take i) := by
      have := congrArg (List.map fun r : List Int => r.getD 0 0) e2;rw [List.map_map, List.map_map] at this;refine this.trans ?_
      conv => rhs; rw [← List.map_id (jA sa ((rs.map (·.2)).take i))]
      rfl
    have q3 : ∀ r ∈ qs, r.2.length = 3 := fun r m => by
      have : r.2 ∈ qs.map (·.2) := List.mem_map.mpr ⟨r, m, rfl⟩;rw [e2] at this;obtain ⟨k, _, e⟩ := List.mem_map.mp this;rw [← e]
      rfl
    generalize jA sa ((rs.map (·.2)).take i) = ks at e2 kl lq kt qk;refine ⟨_, rfl, _, rfl, rs[i].1, _, _, _, rfl, rfl, SqL.of hR, zW (int_at ssa), _, rfl, wp, rfl, ⟨_, SqL.of w2.1⟩, ?_⟩;refine jD (xs := refs qs) (fun m ys H' => H' = H2 ∧ ys = ((qs.take m).map fun r => r.2.getD 0 0).map V.int) ⟨rfl, rfl⟩ ?_ ?_ ?_
    · rintro m ys H3 hm ⟨rfl, rfl⟩;exact ⟨SqL.of w2.1, zH (by rw [List.length_map, List.length_map, List.length_take]; omega)⟩
    · rintro m x ys H3 hm ⟨rfl, rfl⟩;have hmq : m < qs.length := by
        have := (List.getElem?_eq_some_iff.mp hm).1
        rwa [hlq] at this
      rw [jO hmq] at hm;cases hm;refine ⟨_, rfl, qs[m].1, _, _, _, rfl, rfl, SqL.of (w2.2 _ (List.getElem_mem hmq)).2, zW (j := 0) (int_at (by rw [q3 _ (List.getElem_mem hmq)]; decide)), rfl, ?_⟩;rw [List.take_add_one, List.getElem?_eq_getElem hmq, List.map_append, List.map_append]
      rfl
    · rintro ys H3 ⟨rfl, rfl⟩ lp hlp;rw [hlq, List.take_length, qk];refine zf (upd _ lp _) rfl hlp fun H3 n3 x3 => ?_
      refine ⟨lp, _, rfl, .inl (SqL.of x3), rfl, z7c _, _, rfl, ?_⟩;rw [z6H];have s3 := s2.trans n3;have w3 := w2.same n3;refine yM (fun hb => ?_) (fun hb => ?_)
      · have hb' : ¬ rs[i].2.getD sa 0 ∈ ks := by simpa using hb
        rw [if_neg hb'] at kt;have j3 := h4.same s3;refine ⟨_, rfl, p, _, _, _, rfl, rfl, SqT.of (s3 _ _ h1), z0h, rp, rfl, ⟨_, SqL.of j3.1⟩, ?_⟩;refine z02 (xs := refs rs) (fun m ys H' => H' = H3 ∧ ys = refs ((rs.take m).filter fun r => decide (r.2.getD sa 0 = rs[i].2.getD sa 0))) ⟨rfl, rfl⟩ ?_ ?_ ?_
        · rintro m ys H4 hm ⟨rfl, rfl⟩;refine ⟨SqL.of j3.1, zH ?_⟩;have := List.length_filter_le (fun r : Addr × List Int => decide (r.2.getD sa 0 = rs[i].2.getD sa 0)) (rs.take m);rw [List.length_map];rw [List.length_take] at this;omega
        · rintro m x ys H4 hm ⟨rfl, rfl⟩;have hmr : m < rs.length := by
            have := (List.getElem?_eq_some_iff.mp hm).1
            rwa [hlr] at this
          rw [jO hmr] at hm;cases hm;have ft := z0e (fun r : Addr × List Int => decide (r.2.getD sa 0 = rs[i].2.getD sa 0)) rs (List.getElem?_eq_getElem hmr);refine ⟨_, rfl, _, rfl, rs[m].1, _, _, _, rfl, rfl, SqL.of (j3.2 _ (List.getElem_mem hmr)).2, zW (int_at (sla _ (List.getElem_mem hmr))), _, rfl, _, rfl, rs[i].1, _, _, _, rfl, rfl, SqL.of (j3.2 _ (List.getElem_mem hir)).2, zW (int_at ssa), rfl, _, rfl, ?_⟩;rw [z1C];refine yM (fun hc => ?_) (fun hc => ?_)
          · refine ⟨_, rfl, rfl, ?_⟩;rw [ft, if_pos hc];simp [refs]
          · refine ⟨rfl, ?_⟩;rw [ft, if_neg hc, List.append_nil]
        · rintro ys H4 ⟨rfl, rfl⟩ mp hmp;rw [hlr, List.take_length];refine zf (upd _ mp _) rfl hmp fun H4 n4 x4 => ?_
          have s4 := s3.trans n4;have fl : (rs.filter fun r => decide (r.2.getD sa 0 = rs[i].2.getD sa 0)).length ≤ rs.length := List.length_filter_le _ _;have fm : ∀ r ∈ rs.filter (fun r => decide (r.2.getD sa 0 = rs[i].2.getD sa 0)), r ∈ rs := fun r m => (List.mem_filter.mp m).1
          have fe : (rs.filter fun r => decide (r.2.getD sa 0 = rs[i].2.getD sa 0)).map (·.2) = (rs.map (·.2)).filter fun r => decide (r.getD sa 0 = rs[i].2.getD sa 0) := by
            rw [List.filter_map]
            rfl
          generalize (rs.filter fun r => decide (r.2.getD sa 0 = rs[i].2.getD sa 0)) = fs at x4 fl fm fe;have hlf : (refs fs).length = fs.length := List.length_map _;have j4 := h4.same s4;refine ⟨_, rfl, mp, rfl, ⟨_, SqL.of x4⟩, ?_⟩;refine jD (xs := refs fs) (fun m ys H' => H' = H4 ∧ ys = ((fs.take m).map fun r => r.2.getD sb 0).map V.int) ⟨rfl, rfl⟩ ?_ ?_ ?_
          · rintro m ys H5 hm ⟨rfl, rfl⟩;exact ⟨SqL.of x4, zH (by rw [List.length_map, List.length_map, List.length_take]; omega)⟩
          · rintro m x ys H5 hm ⟨rfl, rfl⟩;have hmf : m < fs.length := by
              have := (List.getElem?_eq_some_iff.mp hm).1
              rwa [hlf] at this
            rw [jO hmf] at hm;cases hm;have mr := fm _ (List.getElem_mem hmf);refine ⟨_, rfl, _, rfl, fs[m].1, _, _, _, rfl, rfl, SqL.of (j4.2 _ mr).2, zW (int_at (slb _ mr)), rfl, ?_⟩;rw [List.take_add_one, List.getElem?_eq_getElem hmf, List.map_append, List.map_append]
            rfl
          · rintro ys H5 ⟨rfl, rfl⟩ tp htp;rw [hlf, List.take_length];refine zf (upd _ tp _) rfl htp fun H5 n5 x5 => ?_
            refine ⟨tp, _, rfl, SqL.of x5, ?_⟩;have s5 := s4.trans n5;have w5 := w3.same (n4.trans n5);refine ⟨_, rfl, .inl ⟨rfl, _, SqL.of w5.1⟩, _, rfl, _, rfl, rs[i].1, _, _, _, rfl, rfl, SqL.of (s5 _ _ (h4.2 _ (List.getElem_mem hir)).2), zW (int_at ssa), _, rfl, mp, _, rfl, .inl (SqL.of (n5 _ _ x4)), _, rfl, zq (by show 3 ≤ _; decide), fun gp hgp => ?_⟩;have n6 := zG hgp (.lst [V.int (rs[i].2.getD sa 0), V.int (((refs fs).length : Nat) : Int), V.int (fs.map fun r => r.2.getD sb 0).sum]);have w6 := w5.same n6;refine ⟨wp, _, _, rfl, rfl, w6.1, zH (by rw [List.length_map]; omega), ?_⟩;have nq : gp ≠ wp := (zr w5.1 hgp).symm;refine ⟨qs ++ [(gp, [rs[i].2.getD sa 0, ((fs.length : Nat) : Int), (fs.map fun r => r.2.getD sb 0).sum])], _, _, _, rfl, (s5.trans n6).put hwp, w6.push nq (by rw [zm, hlf]; rfl), ?_⟩;rw [List.map_append, e2, kt, List.map_append]
            congr 1
            show [_] = [yA sa sb (rs.map (·.2)) (rs[i].2.getD sa 0)]
            unfold yA;rw [← fe, List.length_map, List.map_map]
            rfl
      · have hb' : rs[i].2.getD sa 0 ∈ ks := by simpa using hb
        rw [if_pos hb'] at kt;refine ⟨qs, _, _, _, rfl, s3, w3, ?_⟩;rw [e2, kt]
  · rintro σ H2 ⟨qs, o8, o9, o10, rfl, s2, w2, e2⟩;rw [hlr, show (rs.map (·.2)).take rs.length = rs.map (·.2) from List.take_of_length_le (by rw [List.length_map]; exact Nat.le_refl _)] at e2;have g1 := s2 _ _ h1;refine ⟨_, rfl, _, _, rfl, rfl, by (walk_at "sl"), _, rfl, _, _, rfl, rfl, by (walk_at "sl"), _, _, rfl, rfl, by (walk_at "sl"), _, rfl, _, _, rfl, rfl, by (walk_at "sl"), _, _, rfl, rfl, by (walk_at "sl"), _, rfl, _, _, rfl, rfl, by (walk_at "sl"), ?_⟩;refine ⟨_, rfl, _, _, rfl, rfl, by (walk_at "sl"), _, _, rfl, rfl, by (walk_at "sl"), _, rfl, p, _, _, _, rfl, rfl, SqT.of g1, jd, _, _, rfl, rfl, by (walk_at "sl"), _, _, rfl, rfl, by (walk_at "sl"), ?_⟩;refine ⟨_, rfl, _, rfl, _, rfl, _, _, rfl, rfl, by (walk_at "sl"), _, rfl, _, _, rfl, rfl, by (walk_at "sl"), _, rfl, p, _, _, _, rfl, rfl, SqT.of g1, zQ, zq (by show 6 ≤ _; decide), fun qp hqp => ?_⟩;refine zf (upd _ qp _) rfl hqp fun H3 n3 x3 => ?_
    refine ⟨_, rfl, _, rfl, _, rfl, _, rfl, _, _, rfl, rfl, by (walk_at "sl"), _, rfl, _, _, rfl, rfl, by (walk_at "sl"), zq (by show 3 ≤ _; decide), fun lp hlp => ?_⟩;refine zf (upd _ lp _) rfl hlp fun H4 n4 x4 => ?_
    refine ⟨_, rfl, zq (by show 4 ≤ _; decide), fun sp hsp => ?_⟩;refine zf (upd _ sp _) rfl hsp fun H5 n5 x5 => ?_
    have s25 := n3.trans (n4.trans n5);have s5 := s2.trans s25;have el : (("(group " : Str) ++ (a ++ " " ++ b ++ " n" ++ g ++ " s" ++ g) ++ " " ++ zA q ++ ")" : Str) = zA (.group a b (("n" : Str) ++ g) (("s" : Str) ++ g) q) := by
      simp only [zA];have e1 : (" n" : Str) = (" " : Str) ++ ("n" : Str) := by decide +kernel
      have e2 : (" s" : Str) = (" " : Str) ++ ("s" : Str) := by decide +kernel
      rw [e1, e2];simp only [Str.append_assoc]
    rw [el] at x5;refine fin _ a b _ s5 ⟨sp, _, lp, wp, qs, rfl, x5, ⟨qp, qv, rfl, n5 _ _ (n4 _ _ x3), h2.same s5⟩, n5 _ _ x4, w2.same s25, ?_⟩ ma mb;rw [e2, h5];simp only [rowsOf, z1d, hsa, hsb]

noncomputable def yQ (th : Str → List Str) (tr : Str → List (List Int)) : Qn → Prop
  | .table n => (tr n).length ≤ 60
  | .pick _ q => yQ th tr q
  | .cols _ q => yQ th tr q
  | .pair q r => yQ th tr q ∧ yQ th tr r ∧ (rowsOf th tr q).length * (rowsOf th tr r).length ≤ 60
  | .join _ _ q r => yQ th tr q ∧ yQ th tr r ∧ (rowsOf th tr q).length * (rowsOf th tr r).length ≤ 60
  | .both q r => yQ th tr q ∧ yQ th tr r ∧ (rowsOf th tr q).length + (rowsOf th tr r).length ≤ 60
  | .first _ q => yQ th tr q
  | .group _ _ _ _ q => yQ th tr q
  | .sort _ q => yQ th tr q
theorem z5b {th : Str → List Str} {tr : Str → List (List Int)} (T : TabOk th tr) : ∀ n ∈ tabs, (tr n).length ≤ 60 := by
  intro n hn;simp only [tabs, List.mem_cons, List.not_mem_nil, or_false] at hn;rcases hn with rfl | rfl | rfl | rfl
  · exact T.ct
  · have := T.cw; omega
  · have := T.cx; omega
  · have := T.cz; omega
structure Rt (th : Str → List Str) (tr : Str → List (List Int)) (n : Str) (r : Qn) (k : Nat) : Prop where
  ok : okQ th r
  hd : zc th r = th n
  ln : (rowsOf th tr r).length ≤ (tr n).length
  li : (zA r).length ≤ 10 + 100 * k
  dp : depth r ≤ 1 + 2 * k
  sub : yQ th tr r
structure Un2 (th : Str → List Str) (tr : Str → List (List Int)) (q : Qn) (n : Str) (q' : Qn) : Prop where
  ok : okQ th q'
  hd : zc th q' = zc th q ++ th n ∨ zc th q' = th n ++ zc th q
  ln : (rowsOf th tr q').length ≤ (rowsOf th tr q).length * (tr n).length
  li : (zA q').length ≤ (zA q).length + 600
  dp : depth q' ≤ max (depth q) 5 + 2
  nt : ∀ m, q' ≠ .table m
  sub : yQ th tr q → (rowsOf th tr q).length * (tr n).length ≤ 60 → yQ th tr q'
theorem pairs_len (xs ys : List (List Int)) : (pairs xs ys).length = xs.length * ys.length := by
  unfold pairs
  induction xs with
  | nil => simp
  | cons x xs ih =>
    rw [List.flatMap_cons, List.length_append, List.length_map, ih, List.length_cons, Nat.add_mul, Nat.one_mul, Nat.add_comm]
theorem z2P {xs ys : List (List Int)} {i : Nat} {x : List Int} (h : xs[i]? = some x) : pairs (xs.take (i + 1)) ys = pairs (xs.take i) ys ++ ys.map fun y => x ++ y := by
  unfold pairs;rw [List.take_add_one, h, List.flatMap_append];simp
theorem z29 (s : Nat) (rows : List (List Int)) : (z0L s rows).length = rows.length := by
  unfold z0L;rw [List.length_map, z69]
noncomputable def z38 (K : PySem.W.Frag) : Sp := fun vs H Q _ => ∃ (th : Str → List Str) (tr : Str → List (List Int)) (q : Qn) (n : Str) (v tv : V) (seed : Int), vs = [v, tv, .int seed] ∧ TabOk th tr ∧ yD th tr H v q ∧ okQ th q ∧ TabAt th tr H tv n ∧ n ∈ tabs ∧ (∀ x ∈ zc th q, x ∉ th n) ∧
  (zA q).length ≤ 4000000 ∧ (rowsOf th tr q).length ≤ 1000 ∧ (tr n).length < 64 ∧ (zc th q).length ≤ 1000 ∧ (th n).length ≤ 1000 ∧
  ∀ (v' : V) (q' : Qn) (H' : Hp), zF H H' → yD th tr H' v' q' → Un2 th tr q n q' → Q v' H'
theorem z8x : ∀ n ∈ tabs, n.length ≤ 10 := by decide +kernel
theorem z6E {hs : List Str} {r : List Int} {s : Str} (h : s ∈ hs) (hl : r.length = hs.length) : hs.idxOf s < r.length := by rw [hl]; exact List.idxOf_lt_length_iff.mpr h
theorem zD : FnScope ["_law_state", "_law_table", "_law_seed", "_law_left", "_law_right", "_law_heads", "_law_rows", "_law_one", "_law_two", "_law_name", "_law_other", "_law_line", "_law_question", "_law_spot", "_law_place", "_law_same"] ["_law_state", "_law_table", "_law_seed"] (zl yG) := ⟨rfl, rfl, rfl, by decide +kernel, rfl, by decide +kernel, by decide +kernel⟩
set_option maxHeartbeats 1600000 in
theorem z3a (F : Fun K "_law_united" "_law_united" yG f fd) (T : Txt K mg) (C_law_sorted : Kn P w K mg base 1 "_law_sorted" ["_law_state", "_law_seed"] (z1G K)) (C_law_headed : Kn P w K mg base 1 "_law_headed" ["_law_state", "_law_seed"] (z1k K)) : FnOk P w K mg base CX0 2 f fd ["_law_state", "_law_table", "_law_seed"] (z38 K) := by
  refine F.ok zD (fun vs H Q E h => ?_) (fun cdv A outer s H vs Q E hr h => ?_)
  · obtain ⟨th, tr, q, n, v, tv, seed, rfl, _⟩ := h
    rfl
  obtain ⟨th, tr, q, n, v, tv, seed, rfl, TT, hst, hok, ht, mn, dj, hli, hro, hrt, hhl, hht, fin⟩ := h;obtain ⟨tp, thp, trp, ts, rfl, t1, t3, t4, t5⟩ := ht;have nl := z8x n mn;have hu := z2X hr;refine ⟨_, (zd (zo (i := 3) zD.nd rfl (Or.inl rfl) (pv 0))
    (zd (zo (i := 4) zD.nd rfl (Or.inl rfl) (zK (j8 (zK (zv zn (zk (zh zj (pv 1) za (fun _ _ => rfl)) ze))) (zk (zh zj (pv 1) za (fun _ _ => rfl)) (zk (zh zj (pv 1) za (fun _ _ => rfl)) (zk (zh zj (pv 1) za (fun _ _ => rfl)) ze))))))
    (zd (kK (zw zT (zp zS (pv 2) za) za (zC _))
      (zg (zo (i := 4) zD.nd rfl (Or.inl rfl) (zy C_law_sorted hr.m rfl (zb (pv 4) (ya (zp jQ (pv 2) za) ze)))))
      zE)
    (zd (kK (zw zT (zp zS (pv 2) za) za (zC _))
      (zg (zo (i := 4) zD.nd rfl (Or.inl rfl) (zy C_law_headed hr.m rfl (zb (pv 4) (zv za ze)))))
      zE)
    (zd (kK (zw zT (zp zS (zp jQ (pv 2) za) za) za (zC _))
      (zd (zo (i := 3) zD.nd rfl (Or.inl rfl) (pv 4))
      (zg (zo (i := 4) zD.nd rfl (Or.inl rfl) (pv 0))))
      zE)
    (zd (zo (i := 5) zD.nd rfl (Or.inl rfl) (zp yS (zh zj (pv 3) za (fun _ _ => rfl)) (zh zj (pv 4) za (fun _ _ => rfl))))
    (zd (zo (i := 6) zD.nd rfl (Or.inl rfl) (zI ze))
    (zd (jH PassesOwn.never rfl (zX (zh zj (pv 3) za (fun _ _ => rfl))) (jf (i := 7) zD.nd rfl (Or.inl rfl))
      (zg (jH PassesOwn.never rfl (zX (zh zj (pv 4) za (fun _ _ => rfl))) (jf (i := 8) zD.nd rfl (Or.inl rfl))
        (zg (jc (jF PySem.F.plainAttrs_list PySem.F.slot_list_append PySem.F.type_list_append jz (pv 6) (ya (zp yS (pv 7) (pv 8)) ze)))))))
    (zd (zo (i := 9) zD.nd rfl (Or.inl rfl) (zh zz (zh zj (pv 3) za (fun _ _ => rfl)) (zp zS (zp jQ (pv 2) za) (zx zu rfl T.len PySem.boot_len (zk (zh zj (pv 3) za (fun _ _ => rfl)) ze))) (fun _ _ => rfl)))
    (zd (zo (i := 10) zD.nd rfl (Or.inl rfl) (zh zz (zh zj (pv 4) za (fun _ _ => rfl)) (zp zS (zp jQ (pv 2) za) (zx zu rfl T.len PySem.boot_len (zk (zh zj (pv 4) za (fun _ _ => rfl)) ze))) (fun _ _ => rfl)))
    (zd (zo (i := 11) zD.nd rfl (Or.inl rfl) (zp zi (zp zi (zp zi (zp zi zn (zh zj (pv 3) za (fun _ _ => rfl))) zn) (zh zj (pv 4) za (fun _ _ => rfl))) zn))
    (zd (zo (i := 12) zD.nd rfl (Or.inl rfl) (zK (zv zn (zk (zh zj (pv 3) za (fun _ _ => rfl)) (zk (zh zj (pv 4) za (fun _ _ => rfl)) ze)))))
    (zd (zO (zw zT (zp zS (pv 2) za) za (zC _))
      (zg (zB (zK (zb (pv 12) (zb (pv 11) (zb (pv 5) (zb (pv 6) ze)))))))
      zE)
    (zd (zo (i := 13) zD.nd rfl (Or.inr rfl) (jF PySem.F.plainAttrs_list PySem.F.slot_list_index PySem.F.type_list_index jY (pv 5) (zb (pv 9) ze)))
    (zd (zo (i := 14) zD.nd rfl (Or.inr rfl) (jF PySem.F.plainAttrs_list PySem.F.slot_list_index PySem.F.type_list_index jY (pv 5) (zb (pv 10) ze)))
    (zd (yb (j := 15) rfl zD.nd rfl (Or.inl rfl) (CompSc.of (sx := zl yG) (NX := ["_law_state", "_law_table", "_law_seed", "_law_left", "_law_right", "_law_heads", "_law_rows", "_law_one", "_law_two", "_law_name", "_law_other", "_law_line", "_law_question", "_law_spot", "_law_place", "_law_same"]) (fr := ["_law_spot", "_law_place"]) (ix := [13, 14]) rfl rfl (by decide +kernel)) (zX (pv 6)) (fun _ _ _ _ _ _ => (z1j (zw zT (zh (yj (K := K) rfl) (pv 0) (pv 1) (fun _ _ => rfl)) (zh (yj (K := K) rfl) (pv 0) (pv 2) (fun _ _ => rfl)) (zC _)))) (fun _ _ _ _ _ _ => (pv 0)))
    (zd (zO (z1u (zw (z4Y hu) (pv 15) (zI ze) (zC _)) (zw z4W (zp zS (pv 2) za) za (zC _)))
      (zg (zB (zK (zb (pv 12) (zb (pv 11) (zb (pv 5) (zb (pv 6) ze)))))))
      zE)
    (zd (zo (i := 6) zD.nd rfl (Or.inl rfl) (pv 15))
    (zd (kK (zw zT (zp zS (pv 2) za) za (zC _))
      (zd (zo (i := 11) zD.nd rfl (Or.inl rfl) (zp zi (zp zi (zp zi (zp zi (zp zi (zp zi (zp zi (zp zi zn (pv 9)) zn) (pv 10)) zn) (zh zj (pv 3) za (fun _ _ => rfl))) zn) (zh zj (pv 4) za (fun _ _ => rfl))) zn))
      (zg (zo (i := 12) zD.nd rfl (Or.inl rfl) (zK (zv zn (zb (pv 9) (zb (pv 10) (zk (zh zj (pv 3) za (fun _ _ => rfl)) (zk (zh zj (pv 4) za (fun _ _ => rfl)) ze)))))))))
      (zg (zO (zw zT (zp zS (pv 2) za) za (zC _))
        (zd (zo (i := 11) zD.nd rfl (Or.inl rfl) (zp zi (zp zi (zp zi (zp zi (zp zi (zp zi zn (pv 10)) zn) (pv 9)) zn) (pv 11)) zn))
        (zg (zo (i := 12) zD.nd rfl (Or.inl rfl) (zK (zv zn (j8 (zK (zv zn (zb (pv 10) (zb (pv 9) ze)))) (zb (pv 12) ze)))))))
        (zd (zo (i := 11) zD.nd rfl (Or.inl rfl) (zp zi (zp zi (zp zi (zp zi (zp zi (zp zi zn (pv 9)) zn) (pv 10)) zn) (pv 11)) zn))
        (zg (zo (i := 12) zD.nd rfl (Or.inl rfl) (zK (zv zn (j8 (zK (zv zn (zb (pv 9) (zb (pv 10) ze)))) (zb (pv 12) ze))))))))))
    (zg (zB (zK (zb (pv 12) (zb (pv 11) (zb (pv 5) (zb (pv 6) ze)))))))))))))))))))))))))), ?_⟩
  refine ⟨_, rfl, ?_⟩;refine ⟨_, rfl, tp, _, _, _, rfl, rfl, SqT.of t1, zQ, zq (by show 2 ≤ _; decide), fun qp hqp => ?_⟩;refine zf (upd _ qp _) rfl hqp fun H1 n1 x1 => ?_
  have t1' := n1 _ _ t1;refine ⟨_, rfl, tp, _, _, _, rfl, rfl, SqT.of t1', zQ, _, rfl, tp, _, _, _, rfl, rfl, SqT.of t1', jd, _, rfl, tp, _, _, _, rfl, rfl, SqT.of t1', jx, zq (by show 4 ≤ _; decide), fun sp0 hsp0 => ?_⟩;refine zf (upd _ sp0 _) rfl hsp0 fun H2 n2 x2 => ?_
  have s2 := n1.trans n2;have st2 : yD th tr H2 (.ref sp0) (.table n) := ⟨sp0, _, thp, trp, ts, rfl, x2, ⟨qp, rfl, n2 _ _ x1⟩, s2 _ _ t3, t4.same s2, t5⟩;have rt2 : Rt th tr n (.table n) 0 := ⟨mn, rfl, Nat.le_refl _, nl, Nat.le_refl _, z5b TT n mn⟩;refine ⟨fun σ H3 => ∃ (rv : V) (r : Qn), σ = [some v, some (.ref tp), some (.int seed), some v, some rv, none, none, none, none, none, none, none, none, none, none, none] ∧ zF H H3 ∧ yD th tr H3 rv r ∧ Rt th tr n r 1, ?_, ?_⟩
  · refine ⟨_, rfl, _, _, rfl, rfl, (by show (0 : Int) < 7; decide), rfl, _, rfl, ?_⟩;refine yM (fun hb => ?_) (fun hb => ?_)
    · refine ⟨_, rfl, _, rfl, _, _, rfl, rfl, ⟨by decide, by decide⟩, th, tr, .table n, _, _, rfl, TT, st2, mn, by have : (zA (.table n)).length ≤ 10 := nl; omega, hrt, fun v' a H' s' st' ma => ?_⟩;refine ⟨v', _, rfl, s2.trans s', st', ⟨ma, mn⟩, rfl, by show (z0L _ _).length ≤ _; rw [z29]; exact Nat.le_refl _, ?_, by show 1 + 1 ≤ 1 + 2 * 1; decide, z5b TT n mn⟩;have la := z3E TT n mn a ma;simp only [zA]
      (walk_at "sl")
    · exact ⟨_, _, rfl, s2, st2, rt2.ok, rt2.hd, rt2.ln, by have := rt2.li; omega, by have := rt2.dp; omega, rt2.sub⟩
  rintro σ H3 ⟨rv, r, rfl, s3, st3, rt3⟩;refine ⟨fun σ H4 => ∃ (rv : V) (r : Qn), σ = [some v, some (.ref tp), some (.int seed), some v, some rv, none, none, none, none, none, none, none, none, none, none, none] ∧ zF H H4 ∧ yD th tr H4 rv r ∧ Rt th tr n r 2, ?_, ?_⟩
  · refine ⟨_, rfl, _, _, rfl, rfl, (by show (0 : Int) < 7; decide), rfl, _, rfl, ?_⟩;refine yM (fun hb => ?_) (fun hb => ?_)
    · refine ⟨_, rfl, th, tr, r, _, _, rfl, st3, by have := rt3.li; omega, fun v' q' H' s' st' hq' => ?_⟩;refine ⟨v', q', rfl, s3.trans s', st', ?_⟩;obtain ⟨m, mm, hq'⟩ := hq';have lm := (kD m mm).1;have li3 := rt3.li;have dp3 := rt3.dp;rcases hq' with rfl | ⟨m', mm', rfl⟩
      · refine ⟨⟨mm, rt3.ok⟩, rt3.hd, ?_, ?_, ?_, rt3.sub⟩
        · show ((rowsOf th tr r).take _).length ≤ _
          rw [List.length_take];have := rt3.ln;omega
        · simp only [zA]
          (walk_at "sl")
        · show depth r + 1 ≤ _
          omega
      · have lm' := (kD m' mm').1;refine ⟨⟨mm', mm, rt3.ok⟩, rt3.hd, ?_, ?_, ?_, rt3.sub⟩
        · show (((rowsOf th tr r).take _).take _).length ≤ _
          rw [List.length_take, List.length_take];have := rt3.ln;omega
        · simp only [zA]
          (walk_at "sl")
        · show depth r + 1 + 1 ≤ _
          omega
    · exact ⟨_, _, rfl, s3, st3, rt3.ok, rt3.hd, rt3.ln, by have := rt3.li; omega, by have := rt3.dp; omega, rt3.sub⟩
  clear st3 rt3;rintro σ H4 ⟨rv, r, rfl, s4, st4, rt4⟩;have li4 := rt4.li;have dp4 := rt4.dp;have ln4 := rt4.ln;have djr : ∀ x ∈ zc th q, x ∉ zc th r := by rw [rt4.hd]; exact dj
  have hst4 := hst.same s4;have llr : (zA r).length ≤ 300 := by omega
  refine ⟨fun σ H5 => ∃ (lv wv : V) (ql qr : Qn), σ = [some v, some (.ref tp), some (.int seed), some lv, some wv, none, none, none, none, none, none, none, none, none, none, none] ∧ H5 = H4 ∧ yD th tr H4 lv ql ∧ yD th tr H4 wv qr ∧ okQ th ql ∧ okQ th qr ∧ (∀ x ∈ zc th ql, x ∉ zc th qr) ∧ (zA ql).length + (zA qr).length ≤ (zA q).length + 300 ∧
    (rowsOf th tr ql).length * (rowsOf th tr qr).length ≤ (rowsOf th tr q).length * (tr n).length ∧ (rowsOf th tr ql).length ≤ 1000 ∧ (rowsOf th tr qr).length ≤ 1000 ∧ (zc th ql).length ≤ 1000 ∧ (zc th qr).length ≤ 1000 ∧ (zc th ql ++ zc th qr = zc th q ++ th n ∨ zc th ql ++ zc th qr = th n ++ zc th q) ∧ max (depth ql) (depth qr) ≤ max (depth q) 5 ∧ (yQ th tr q → yQ th tr ql ∧ yQ th tr qr), ?_, ?_⟩
  · refine ⟨_, rfl, _, _, rfl, rfl, ⟨by decide, by decide⟩, _, _, rfl, rfl, (by show (0 : Int) < 2; decide), rfl, _, rfl, ?_⟩;refine yM (fun hb => ?_) (fun hb => ?_)
    · refine ⟨_, rfl, ?_⟩;refine ⟨_, rfl, ?_⟩;refine ⟨_, _, r, q, rfl, rfl, st4, hst4, rt4.ok, hok, fun x hx hy => djr x hy hx, by omega, ?_, by omega, hro, by rw [rt4.hd]; exact hht, hhl, .inr (by rw [rt4.hd]), by omega, fun h => ⟨rt4.sub, h⟩⟩;rw [Nat.mul_comm];exact Nat.mul_le_mul_left _ ln4
    · exact ⟨_, _, q, r, rfl, rfl, hst4, st4, hok, rt4.ok, djr, by omega, Nat.mul_le_mul_left _ ln4, hro, by omega, hhl, by rw [rt4.hd]; exact hht, .inl (by rw [rt4.hd]), by omega, fun h => ⟨h, rt4.sub⟩⟩
  rintro σ H5 ⟨lv, wv, ql, qr, rfl, rfl, stl, str, okl, okr, dlr, lil, rol, rl1, rl2, hl1, hl2, hdl, dpl, sbl⟩;have nel := jm TT okl;have ner := jm TT okr;have nml := zY TT okl;have nmr := zY TT okr;have rwl := jw TT okl;have rwr := jw TT okr;obtain ⟨p1, qv1, hp1, rp1, rs1, rfl, a1, a2, a3, a4, a5⟩ := stl;obtain ⟨p2, qv2, hp2, rp2, rs2, rfl, b1, b2, b3, b4, b5⟩ := str;have l1 : rs1.length ≤ 1000 := by rw [← a5, List.length_map] at rl1; exact rl1
  have l2 : rs2.length ≤ 1000 := by rw [← b5, List.length_map] at rl2; exact rl2
  have hlr1 : (refs rs1).length = rs1.length := List.length_map _;have hlr2 : (refs rs2).length = rs2.length := List.length_map _;have w1 : ∀ r ∈ rs1, r.2.length = (zc th ql).length := fun r m => rwl r.2 (by rw [← a5]; exact List.mem_map.mpr ⟨_, m, rfl⟩)
  have w2 : ∀ r ∈ rs2, r.2.length = (zc th qr).length := fun r m => rwr r.2 (by rw [← b5]; exact List.mem_map.mpr ⟨_, m, rfl⟩)
  refine ⟨_, rfl, p1, _, _, _, rfl, rfl, SqT.of a1, jx, _, rfl, p2, _, _, _, rfl, rfl, SqT.of b1, jx, _, _, _, _, rfl, rfl, a3, b3, zq (by rw [List.length_map, List.length_map]; omega), fun hp hhp => ?_⟩;rw [← List.map_append];refine zf (upd _ hp _) rfl hhp fun H6 n6 x6 => ?_
  refine ⟨zq (by show 0 ≤ _; decide), fun wp hwp => ?_⟩;refine zf (upd _ wp _) rfl hwp fun H7 n7 x7 => ?_
  have n57 := n6.trans n7;have f5 : H5 wp = none := n6.free hwp;refine ⟨_, rfl, p1, _, _, _, rfl, rfl, SqT.of (n57 _ _ a1), z0h, rp1, rfl, ⟨_, SqL.of (n57 _ _ a4.1)⟩, jT (K := K) (a := rp1) (xs := refs rs1) (fun i σ H' => ∃ (ds : List (Addr × List Int)) (o7 o8 : Option V), σ = [some v, some (.ref tp), some (.int seed), some (.ref p1), some (.ref p2), some (.ref hp), some (.ref wp), o7, o8, none, none, none, none, none, none, none] ∧ zF H6 H' ∧ RowsAt H' wp ds ∧
    ds.map (·.2) = pairs ((rs1.map (·.2)).take i) (rs2.map (·.2)) ∧ ds.length ≤ i * 1000) ⟨[], none, none, rfl, n7, yi x7, rfl, Nat.le_refl _⟩ (fun i σ H' _ ⟨_, _, _, _, sm, _⟩ => SqL.of (sm _ _ (n6 _ _ a4.1))) ?_ ?_⟩
  · rintro i x σ H8 hi ⟨ds, o7, o8, rfl, s8, hd, ed, ld⟩;have hir : i < rs1.length := by
      have := (List.getElem?_eq_some_iff.mp hi).1
      rwa [hlr1] at this
    rw [jO hir] at hi;cases hi;have n58 := n6.trans s8;refine ⟨_, rfl, p2, _, _, _, rfl, rfl, SqT.of (n58 _ _ b1), z0h, rp2, rfl, ⟨_, SqL.of (n58 _ _ b4.1)⟩, jT (K := K) (a := rp2) (xs := refs rs2) (fun j σ H' => ∃ (ds : List (Addr × List Int)) (o8 : Option V), σ = [some v, some (.ref tp), some (.int seed), some (.ref p1), some (.ref p2), some (.ref hp), some (.ref wp), some (.ref rs1[i].1), o8, none, none, none, none, none, none, none] ∧ zF H6 H' ∧ RowsAt H' wp ds ∧
      ds.map (·.2) = pairs ((rs1.map (·.2)).take i) (rs2.map (·.2)) ++ ((rs2.map (·.2)).take j).map (fun o => rs1[i].2 ++ o) ∧ ds.length ≤ i * 1000 + j) ⟨ds, o8, rfl, s8, hd, by rw [ed]; simp, by omega⟩ (fun j σ H' _ ⟨_, _, _, sm, _⟩ => SqL.of (sm _ _ (n6 _ _ b4.1))) ?_ ?_⟩
    · rintro j y σ H9 hj ⟨ds, o8, rfl, s9, hd, ed, ld⟩;have hjo : j < rs2.length := by
        have := (List.getElem?_eq_some_iff.mp hj).1
        rwa [hlr2] at this
      rw [jO hjo] at hj;cases hj;have n59 := n6.trans s9;have hR := n59 _ _ (a4.2 _ (List.getElem_mem hir)).2;have hO := n59 _ _ (b4.2 _ (List.getElem_mem hjo)).2;have wl1 := w1 _ (List.getElem_mem hir);have wl2 := w2 _ (List.getElem_mem hjo);refine ⟨_, rfl, .inl ⟨rfl, _, SqL.of hd.1⟩, _, rfl, _, rfl, _, _, _, _, rfl, rfl, hR, hO, zq (by rw [List.length_map, List.length_map]; omega), fun q1 hq1 => ?_⟩;have nn := zG hq1 (.lst (rs1[i].2.map V.int ++ rs2[j].2.map V.int));have hd1 := hd.same nn;refine ⟨wp, _, _, rfl, rfl, hd1.1, zH (by rw [List.length_map]; omega), ?_⟩;have nq : q1 ≠ wp := (zr hd.1 hq1).symm;refine ⟨ds ++ [(q1, rs1[i].2 ++ rs2[j].2)], _, rfl, (s9.trans nn).put hwp, hd1.push nq (by rw [zm, List.map_append]), ?_, by rw [List.length_append, List.length_singleton]; omega⟩;rw [List.map_append, ed, List.take_add_one, z0q hjo, List.map_append, List.append_assoc]
      rfl
    · rintro σ H9 ⟨ds, o8, rfl, s9, hd, ed, ld⟩;refine ⟨ds, _, _, rfl, s9, hd, ?_, by rw [hlr2] at ld; omega⟩;rw [ed, z2P (z0q hir), hlr2, show (rs2.map (·.2)).take rs2.length = rs2.map (·.2) from List.take_of_length_le (by rw [List.length_map]; exact Nat.le_refl _)]
  rintro σ H8 ⟨ds, o7, o8, rfl, s8, hd, ed, ld⟩;rw [hlr1, show (rs1.map (·.2)).take rs1.length = rs1.map (·.2) from List.take_of_length_le (by rw [List.length_map]; exact Nat.le_refl _), a5, b5] at ed;have n58 := n6.trans s8;have s58 := s4.trans n58;have x8 := s8 _ _ x6;have a8 := n58 _ _ a1;have b8 := n58 _ _ b1;have hlen1 : (0 : Int) < ((((zc th ql).map V.str).length : Nat) : Int) := by
    have := List.length_pos_iff.mpr nel.1;rw [List.length_map]; omega
  have hlen2 : (0 : Int) < ((((zc th qr).map V.str).length : Nat) : Int) := by
    have := List.length_pos_iff.mpr ner.1;rw [List.length_map]; omega
  obtain ⟨a, ma, ea⟩ := z0t (i := seed / 8) nel.1;obtain ⟨b, mb, eb⟩ := z0t (i := seed / 2) ner.1;have la := nml a ma;have lb := nmr b mb;refine ⟨_, rfl, p1, _, _, _, rfl, rfl, SqT.of a8, jx, _, rfl, _, _, rfl, rfl, ⟨by decide, by decide⟩, _, rfl, p1, _, _, _, rfl, rfl, SqT.of a8, jx, hp1, _, rfl, .inl (SqL.of (n58 _ _ a3)), _, _, rfl, rfl, hlen1, hp1, _, _, _, rfl, rfl, SqL.of (n58 _ _ a3), ea, ?_⟩;refine ⟨_, rfl, p2, _, _, _, rfl, rfl, SqT.of b8, jx, _, rfl, _, _, rfl, rfl, ⟨by decide, by decide⟩, _, rfl, p2, _, _, _, rfl, rfl, SqT.of b8, jx, hp2, _, rfl, .inl (SqL.of (n58 _ _ b3)), _, _, rfl, rfl, hlen2, hp2, _, _, _, rfl, rfl, SqL.of (n58 _ _ b3), eb, ?_⟩;refine ⟨_, rfl, p1, _, _, _, rfl, rfl, SqT.of a8, jd, _, _, rfl, rfl, by (walk_at "sl"), _, _, rfl, rfl, by (walk_at "sl"), _, rfl, p2, _, _, _, rfl, rfl, SqT.of b8, jd, _, _, rfl, rfl, by (walk_at "sl"), _, _, rfl, rfl, by (walk_at "sl"), ?_⟩;refine ⟨_, rfl, p1, _, _, _, rfl, rfl, SqT.of a8, zQ, _, rfl, p2, _, _, _, rfl, rfl, SqT.of b8, zQ, zq (by show 3 ≤ _; decide), fun pp hpp => ?_⟩;refine zf (upd _ pp _) rfl hpp fun H9 n9 x9 => ?_
  have n59 := n58.trans n9;have qa9 : QAt H9 (.pair ql qr) (.ref pp) := ⟨pp, qv1, qv2, rfl, x9, a2.same n59, b2.same n59⟩;have hd9 := hd.same n9;have lnp : (zA (.pair ql qr)).length ≤ (zA q).length + 310 := by simp only [zA]; (walk_at "sl")
  have edp : ds.map (·.2) = rowsOf th tr (.pair ql qr) := ed;have lds : (rowsOf th tr (.pair ql qr)).length ≤ (rowsOf th tr q).length * (tr n).length := by show (pairs _ _).length ≤ _; rw [pairs_len]; exact rol
  have okp : okQ th (.pair ql qr) := ⟨dlr, okl, okr⟩;have dpp : depth (.pair ql qr) ≤ max (depth q) 5 + 1 := by show max _ _ + 1 ≤ _; omega
  have unp : Un2 th tr q n (.pair ql qr) := ⟨okp, hdl, lds, by omega, by omega, fun _ => nofun, fun h hp => ⟨(sbl h).1, (sbl h).2, Nat.le_trans rol hp⟩⟩;have wds : ∀ r ∈ ds, r.2.length = (zc th ql ++ zc th qr).length := fun r m => jw TT okp r.2 (by rw [← edp]; exact List.mem_map.mpr ⟨_, m, rfl⟩)
  have ldn : ds.length ≤ 1000000 := by omega
  have hld : (refs ds).length = ds.length := List.length_map _;have mah : a ∈ zc th ql ++ zc th qr := List.mem_append_left _ ma;have mbh : b ∈ zc th ql ++ zc th qr := List.mem_append_right _ mb;have s59 := s4.trans n59;have asPair : ∀ (σ : St) {H10 : Hp}, zF H9 H10 → ∀ sp, H10 sp = none → Q (.ref sp) (upd H10 sp (.tup [.ref pp, .str (zA (.pair ql qr)), .ref hp, .ref wp])) := fun σ H10 s10 sp hsp => by
    have n11 := zG hsp (.tup [.ref pp, .str (zA (.pair ql qr)), .ref hp, .ref wp]);have s911 := s10.trans n11;exact fin _ (.pair ql qr) _ (s59.trans s911) ⟨sp, _, hp, wp, ds, rfl, zm, qa9.same s911, s911 _ _ (n9 _ _ x8), hd9.same s911, edp⟩ unp
  refine ⟨_, rfl, _, _, rfl, rfl, (by show (0 : Int) < 4; decide), rfl, _, rfl, ?_⟩;refine yM (fun hb => ?_) (fun hb => ?_)
  · exact ⟨_, rfl, _, rfl, _, rfl, _, rfl, zq (by show 4 ≤ _; decide), fun sp hsp => asPair [] (zF.refl _) sp hsp⟩
  have ia := j9 mah;have ib := j9 mbh;have x9h := n9 _ _ x8;refine ⟨_, rfl, .inl ⟨rfl, _, SqL.of x9h⟩, _, rfl, hp, _, _, (zc th ql ++ zc th qr).idxOf a, rfl, rfl, SqL.of x9h, rfl, zU _, ia.1, ia.2, ?_⟩;refine ⟨_, rfl, .inl ⟨rfl, _, SqL.of x9h⟩, _, rfl, hp, _, _, (zc th ql ++ zc th qr).idxOf b, rfl, rfl, SqL.of x9h, rfl, zU _, ib.1, ib.2, ?_⟩;refine ⟨_, rfl, wp, rfl, ⟨_, SqL.of hd9.1⟩, ?_⟩;refine z02 (xs := refs ds) (fun i ys H' => H' = H9 ∧ ys = refs ((ds.take i).filter fun r => decide (r.2.getD ((zc th ql ++ zc th qr).idxOf a) 0 = r.2.getD ((zc th ql ++ zc th qr).idxOf b) 0))) ⟨rfl, rfl⟩ ?_ ?_ ?_
  · rintro i ys H' hi ⟨rfl, rfl⟩;refine ⟨SqL.of hd9.1, zH ?_⟩;have := List.length_filter_le (fun r : Addr × List Int => decide (r.2.getD ((zc th ql ++ zc th qr).idxOf a) 0 = r.2.getD ((zc th ql ++ zc th qr).idxOf b) 0)) (ds.take i);rw [List.length_map];rw [List.length_take] at this;omega
  · rintro i x ys H' hi ⟨rfl, rfl⟩;have hir : i < ds.length := by
      have := (List.getElem?_eq_some_iff.mp hi).1
      rwa [hld] at this
    rw [jO hir] at hi;cases hi;have hrow := (hd9.2 _ (List.getElem_mem hir)).2;have wl := wds _ (List.getElem_mem hir);have ft := z0e (fun r : Addr × List Int => decide (r.2.getD ((zc th ql ++ zc th qr).idxOf a) 0 = r.2.getD ((zc th ql ++ zc th qr).idxOf b) 0)) ds (List.getElem?_eq_getElem hir);refine ⟨_, rfl, _, rfl, ds[i].1, _, _, _, rfl, rfl, SqL.of hrow, zW (int_at (z6E mah wl)), _, rfl, _, rfl, ds[i].1, _, _, _, rfl, rfl, SqL.of hrow, zW (int_at (z6E mbh wl)), rfl, _, rfl, ?_⟩;rw [z1C];refine yM (fun hc => ?_) (fun hc => ?_)
    · refine ⟨_, rfl, rfl, ?_⟩;rw [ft, if_pos hc];simp [refs]
    · refine ⟨rfl, ?_⟩;rw [ft, if_neg hc, List.append_nil]
  rintro ys H' ⟨rfl, rfl⟩ np hnp;rw [hld, List.take_length];refine zf (upd _ np _) rfl hnp fun H10 n10 x10 => ?_
  have rc := jX hnp n10 x10 fun r m => (hd9.2 r (List.mem_filter.mp m).1).2
  have fe : (ds.filter fun r => decide (r.2.getD ((zc th ql ++ zc th qr).idxOf a) 0 = r.2.getD ((zc th ql ++ zc th qr).idxOf b) 0)).map (·.2) = rowsOf th tr (.join a b ql qr) := by
    show _ = List.filter _ (pairs _ _)
    rw [← ed, List.filter_map]
    rfl
  have lnf : (rowsOf th tr (.join a b ql qr)).length ≤ (rowsOf th tr q).length * (tr n).length := Nat.le_trans (List.length_filter_le _ _) lds;generalize (ds.filter fun r => decide (r.2.getD ((zc th ql ++ zc th qr).idxOf a) 0 = r.2.getD ((zc th ql ++ zc th qr).idxOf b) 0)) = fs at x10 rc fe;refine ⟨_, rfl, zq (by show 0 ≤ _; decide), fun ep hep => ?_⟩;refine zf (upd _ ep _) rfl hep fun H11 n11 x11 => ?_
  refine ⟨np, ep, _, rfl, rfl, SqL.of (n11 _ _ x10), SqL.of x11, _, rfl, _, ⟨_, rfl, _, _, rfl, rfl, (by show (0 : Int) < 5; decide), _, _, rfl, rfl, _, rfl, rfl, rfl⟩, ?_⟩;have s911 := n10.trans n11;refine yM (fun hb2 => ?_) (fun hb2 => ?_)
  · exact ⟨_, rfl, _, rfl, _, rfl, _, rfl, zq (by show 4 ≤ _; decide), fun sp hsp => asPair [] s911 sp hsp⟩
  refine ⟨_, rfl, ?_⟩;have a11 := s911 _ _ (n9 _ _ a8);have b11 := s911 _ _ (n9 _ _ b8);have n511 := n59.trans s911;refine ⟨fun σ H12 => ∃ (qv : V) (q' : Qn), σ = [some v, some (.ref tp), some (.int seed), some (.ref p1), some (.ref p2), some (.ref hp), some (.ref np), o7, o8, some (.str a), some (.str b), some (.str (zA q')), some qv, some (.int (((zc th ql ++ zc th qr).idxOf a : Nat) : Int)), some (.int (((zc th ql ++ zc th qr).idxOf b : Nat) : Int)), some (.ref np)] ∧ zF H11 H12 ∧ QAt H12 q' qv ∧ zc th q' = zc th ql ++ zc th qr ∧ rowsOf th tr q' = rowsOf th tr (.join a b ql qr) ∧ Un2 th tr q n q', ?_, ?_⟩
  · refine ⟨_, rfl, _, _, rfl, rfl, (by show (0 : Int) < 4; decide), rfl, _, rfl, ?_⟩;refine yM (fun hc => ?_) (fun hc => ?_)
    · refine ⟨_, rfl, _, _, rfl, rfl, by (walk_at "sl"), _, _, rfl, rfl, by (walk_at "sl"), _, rfl, _, _, rfl, rfl, by (walk_at "sl"), _, _, rfl, rfl, by (walk_at "sl"), _, rfl, p1, _, _, _, rfl, rfl, SqT.of a11, jd, _, _, rfl, rfl, by (walk_at "sl"), _, _, rfl, rfl, by (walk_at "sl"), _, rfl, p2, _, _, _, rfl, rfl, SqT.of b11, jd, _, _, rfl, rfl, by (walk_at "sl"), _, _, rfl, rfl, by (walk_at "sl"), ?_⟩;refine ⟨_, rfl, _, rfl, _, rfl, p1, _, _, _, rfl, rfl, SqT.of a11, zQ, _, rfl, p2, _, _, _, rfl, rfl, SqT.of b11, zQ, zq (by show 5 ≤ _; decide), fun jp hjp => ?_⟩;refine zf (upd _ jp _) rfl hjp fun H12 n12 x12 => ?_
      have n512 := n511.trans n12;refine ⟨_, .join a b ql qr, rfl, n12, ⟨jp, qv1, qv2, rfl, x12, a2.same n512, b2.same n512⟩, rfl, rfl, ⟨ma, mb, dlr, okl, okr⟩, hdl, lnf, ?_, ?_, fun _ => nofun, fun h hp => ⟨(sbl h).1, (sbl h).2, Nat.le_trans rol hp⟩⟩
      · simp only [zA]; (walk_at "sl")
      · show max _ _ + 1 ≤ _; omega
    · refine ⟨_, rfl, _, _, rfl, rfl, (by show (0 : Int) < 4; decide), rfl, _, rfl, ?_⟩;have evs : ∀ {x y : Str} (hxy : (x = b ∧ y = a) ∨ (x = a ∧ y = b)), rowsOf th tr (.pick (.same (.nm x) (.nm y)) (.pair ql qr)) = rowsOf th tr (.join a b ql qr) := fun {x y} hxy => by
        show List.filter _ (pairs _ _) = List.filter _ (pairs _ _)
        refine List.filter_congr fun z _ => ?_
        rcases hxy with ⟨rfl, rfl⟩ | ⟨rfl, rfl⟩
        · show decide (z.getD ((zc th ql ++ zc th qr).idxOf _) 0 = z.getD ((zc th ql ++ zc th qr).idxOf _) 0) = _
          exact decide_eq_decide.mpr eq_comm
        · rfl
      have mk : ∀ {x y : Str} (hxy : (x = b ∧ y = a) ∨ (x = a ∧ y = b)), Un2 th tr q n (.pick (.same (.nm x) (.nm y)) (.pair ql qr)) := fun {x y} hxy => by
        have mx : x ∈ zc th ql ++ zc th qr := by rcases hxy with ⟨rfl, rfl⟩ | ⟨rfl, rfl⟩ <;> assumption
        have my : y ∈ zc th ql ++ zc th qr := by rcases hxy with ⟨rfl, rfl⟩ | ⟨rfl, rfl⟩ <;> assumption
        have lx : x.length ≤ 10 := by rcases hxy with ⟨rfl, rfl⟩ | ⟨rfl, rfl⟩ <;> assumption
        have ly : y.length ≤ 10 := by rcases hxy with ⟨rfl, rfl⟩ | ⟨rfl, rfl⟩ <;> assumption
        refine ⟨⟨⟨mx, my⟩, by simp [Cond.size], okp⟩, hdl, by rw [evs hxy]; exact lnf, ?_, ?_, fun _ => nofun, fun h hp => ⟨(sbl h).1, (sbl h).2, Nat.le_trans rol hp⟩⟩
        · simp only [zA, yc, ends, Side.txt]; simp only [zA] at lnp; (walk_at "sl")
        · show depth (.pair ql qr) + 1 ≤ _; omega
      have line : ∀ x y : Str, ("(pick (same " ++ x ++ " " ++ y ++ ") " ++ zA (.pair ql qr) ++ ")" : Str) = zA (.pick (.same (.nm x) (.nm y)) (.pair ql qr)) := fun x y => by
        have e : zA (.pick (.same (.nm x) (.nm y)) (.pair ql qr)) = ("(pick " : Str) ++ ("(" ++ "same" ++ " " ++ (x ++ " " ++ y) ++ ")") ++ " " ++ zA (.pair ql qr) ++ ")" := rfl;rw [e];have e1 : ("(pick (same " : Str) = ("(pick " : Str) ++ ("(" ++ "same" ++ " ") := by decide +kernel
        have e2 : (") " : Str) = (")" : Str) ++ " " := by decide +kernel
        rw [e1, e2];simp only [Str.append_assoc]
      have lx12 : (zA (.pair ql qr)).length ≤ 4000310 := by omega
      refine yM (fun hc2 => ?_) (fun hc2 => ?_)
      · refine ⟨_, rfl, _, _, rfl, rfl, by (walk_at "sl"), _, _, rfl, rfl, by (walk_at "sl"), _, rfl, _, _, rfl, rfl, by (walk_at "sl"), _, _, rfl, rfl, by (walk_at "sl"), _, rfl, _, zA (.pair ql qr), rfl, rfl, by (walk_at "sl"), _, _, rfl, rfl, by (walk_at "sl"), ?_⟩;refine ⟨_, rfl, _, rfl, zq (by show 3 ≤ _; decide), fun cp hcp => ?_⟩;refine zf (upd _ cp _) rfl hcp fun H12 n12 x12 => ?_
        refine ⟨_, rfl, zq (by show 3 ≤ _; decide), fun jp hjp => ?_⟩;refine zf (upd _ jp _) rfl hjp fun H13 n13 x13 => ?_
        refine ⟨_, .pick (.same (.nm b) (.nm a)) (.pair ql qr), by rw [← line]; rfl, n12.trans n13, ⟨jp, _, _, rfl, x13, ⟨cp, rfl, n13 _ _ x12⟩, qa9.same (s911.trans (n12.trans n13))⟩, rfl, evs (.inl ⟨rfl, rfl⟩), mk (.inl ⟨rfl, rfl⟩)⟩
      · refine ⟨_, rfl, _, _, rfl, rfl, by (walk_at "sl"), _, _, rfl, rfl, by (walk_at "sl"), _, rfl, _, _, rfl, rfl, by (walk_at "sl"), _, _, rfl, rfl, by (walk_at "sl"), _, rfl, _, zA (.pair ql qr), rfl, rfl, by (walk_at "sl"), _, _, rfl, rfl, by (walk_at "sl"), ?_⟩;refine ⟨_, rfl, _, rfl, zq (by show 3 ≤ _; decide), fun cp hcp => ?_⟩;refine zf (upd _ cp _) rfl hcp fun H12 n12 x12 => ?_
        refine ⟨_, rfl, zq (by show 3 ≤ _; decide), fun jp hjp => ?_⟩;refine zf (upd _ jp _) rfl hjp fun H13 n13 x13 => ?_
        refine ⟨_, .pick (.same (.nm a) (.nm b)) (.pair ql qr), by rw [← line]; rfl, n12.trans n13, ⟨jp, _, _, rfl, x13, ⟨cp, rfl, n13 _ _ x12⟩, qa9.same (s911.trans (n12.trans n13))⟩, rfl, evs (.inr ⟨rfl, rfl⟩), mk (.inr ⟨rfl, rfl⟩)⟩
  rintro σ H12 ⟨qv, q', rfl, s12, qa12, eh, er, un12⟩;refine ⟨_, rfl, _, rfl, _, rfl, _, rfl, zq (by show 4 ≤ _; decide), fun sp hsp => ?_⟩;refine zf (upd _ sp _) rfl hsp fun H13 n13 x13 => ?_
  have s913 := s911.trans (s12.trans n13);refine fin _ q' _ (s59.trans s913) ⟨sp, qv, hp, np, fs, rfl, x13, qa12.same n13, by rw [eh]; exact s913 _ _ x9h, (rc.same n11).same (s12.trans n13), by rw [fe, er]⟩ un12

noncomputable def z0I (hs : List Str) (n : Str) : List Str := if n = "tuvtuvtuvw" then z1e else if n = "tuvtuvtuvx" then (["e"] : List Str) else hs
noncomputable def z23 (r0 r1 r2 r3 : List (List Int)) (n : Str) : List (List Int) := if n = "t" then r0 else if n = "tuvtuvtuvw" then r1 else if n = "tuvtuvtuvx" then r2 else r3
theorem tabs_ok {m : Nat} {r0 r1 r2 r3 : List (List Int)} (m1 : 2 ≤ m) (m2 : m ≤ 12) (l0 : ∀ r ∈ r0, r.length = (zZ.take m).length) (l1 : ∀ r ∈ r1, r.length = 2) (l2 : ∀ r ∈ r2, r.length = 1) (l3 : ∀ r ∈ r3, r.length = (zZ.take m).length) (c0 : r0.length ≤ 60) (c1 : r1.length ≤ 10) (c2 : r2.length ≤ 10) (c3 : r3.length = 3) :
    TabOk (z0I (zZ.take m)) (z23 r0 r1 r2 r3) where
  t := ⟨m, m1, m2, by unfold z0I; rw [if_neg (by decide +kernel), if_neg (by decide +kernel)]⟩
  w := by unfold z0I; rw [if_pos rfl]
  x := by unfold z0I; rw [if_neg (by decide +kernel), if_pos rfl]
  z := by unfold z0I; rw [if_neg (by decide +kernel), if_neg (by decide +kernel), if_neg (by decide +kernel), if_neg (by decide +kernel)]
  rl := fun n hn => by
    simp only [tabs, List.mem_cons, List.not_mem_nil, or_false] at hn;rcases hn with rfl | rfl | rfl | rfl
    · unfold z0I z23; rw [if_pos rfl, if_neg (by decide +kernel), if_neg (by decide +kernel)]; exact l0
    · unfold z0I z23; rw [if_neg (by decide +kernel), if_pos rfl, if_pos rfl]; exact l1
    · unfold z0I z23; rw [if_neg (by decide +kernel), if_neg (by decide +kernel), if_pos rfl, if_neg (by decide +kernel), if_pos rfl]; exact l2
    · unfold z0I z23; rw [if_neg (by decide +kernel), if_neg (by decide +kernel), if_neg (by decide +kernel), if_neg (by decide +kernel), if_neg (by decide +kernel)]; exact l3
  ct := by unfold z23; rw [if_pos rfl]; exact c0
  cw := by unfold z23; rw [if_neg (by decide +kernel), if_pos rfl]; exact c1
  cx := by unfold z23; rw [if_neg (by decide +kernel), if_neg (by decide +kernel), if_pos rfl]; exact c2
  cz := by unfold z23; rw [if_neg (by decide +kernel), if_neg (by decide +kernel), if_neg (by decide +kernel)]; exact c3
noncomputable def jP (th : Str → List Str) (tr : Str → List (List Int)) (H : Hp) (p : Addr) : Prop := ∃ v0 v1 v2 v3, H p = some (.lst [v0, v1, v2, v3]) ∧ TabAt th tr H v0 "t" ∧ TabAt th tr H v1 "tuvtuvtuvw" ∧ TabAt th tr H v2 "tuvtuvtuvx" ∧ TabAt th tr H v3 "tuvz"
theorem jP.same {th : Str → List Str} {tr : Str → List (List Int)} {H H' : Hp} {p : Addr} (h : jP th tr H p) (e : zF H H') : jP th tr H' p := by
  obtain ⟨v0, v1, v2, v3, h0, a, b, c, d⟩ := h;exact ⟨v0, v1, v2, v3, e _ _ h0, a.same e, b.same e, c.same e, d.same e⟩
noncomputable def z1R (K : PySem.W.Frag) : Sp := fun vs H Q _ => ∃ (cp : Addr) (ns : List Int) (more : Int), vs = [.ref cp, .int more] ∧ SqL K H cp (ns.map V.int) ∧ ns.length ≤ 18 ∧ 0 ≤ more ∧ more ≤ 48 ∧
  ∀ (p : Addr) (th : Str → List Str) (tr : Str → List (List Int)) (H' : Hp), zF H H' → TabOk th tr → jP th tr H' p → Q (.ref p) H'

theorem z5N {t : TT} {σ : St} {H : Hp} {Q : Bool → Hp → Prop} (els : Q false H) (h : Q false H → t σ H Q) : t σ H Q := h els
noncomputable def twM (t : Nat) : Nat := if t = 0 then 1 else if t = 1 then 2 else 4
structure Gr (th : Str → List Str) (tr : Str → List (List Int)) (i used twice : Nat) (q : Qn) : Prop where
  ok : okQ th q
  rows : (rowsOf th tr q).length ≤ 60
  line : (zA q).length ≤ 2400 * (i + 1) * twM twice
  heads : ∀ x ∈ zc th q, x ∈ kJ i used
  dp : depth q ≤ 5 + 2 * i
  sub : yQ th tr q
  top : ∀ n, q = .table n → n = "t" := by intro n e; cases e
theorem z2j {α : Type} {l : List α} {x : α} {i j : Nat} (h : x ∈ l.take i) (hij : i ≤ j) : x ∈ l.take j := by
  have : l.take i = (l.take j).take i := by rw [List.take_take, Nat.min_eq_left hij]
  rw [this] at h;exact List.mem_of_mem_take h
theorem jg {x : Str} {i j u v : Nat} (h : x ∈ kJ i u) (hij : i ≤ j) (huv : u ≤ v) : x ∈ kJ j v := by
  unfold kJ at h ⊢;simp only [List.mem_append, List.mem_map] at h ⊢;rcases h with (((h | h) | h) | ⟨s, h, e⟩) | ⟨s, h, e⟩
  · exact .inl (.inl (.inl (.inl h)))
  · refine .inl (.inl (.inl (.inr ?_)));split at h
    · rw [if_pos (by omega)]; exact h
    · cases h
  · refine .inl (.inl (.inr ?_));split at h
    · rw [if_pos (by omega)]; exact h
    · cases h
  · exact .inl (.inr ⟨s, z2j h hij, e⟩)
  · exact .inr ⟨s, z2j h hij, e⟩
theorem z9E : ∀ x ∈ z1e, x ∉ kJ 26 1 := by decide +kernel
theorem zaa : ∀ x ∈ (["e"] : List Str), x ∉ kJ 26 2 := by decide +kernel
theorem z7k : ∀ i : Fin 26, (("n" : Str) ++ signs.getD i.1 "" : Str) ∉ kJ i.1 3 ∧ (("s" : Str) ++ signs.getD i.1 "" : Str) ∉ kJ i.1 3 := by decide +kernel
theorem z2V : (kJ 26 3).length ≤ 100 := by decide +kernel
theorem wIn : ∀ x ∈ z1e, x ∈ kJ 0 2 := by decide +kernel
theorem eIn : ∀ x ∈ (["e"] : List Str), x ∈ kJ 0 3 := by decide +kernel
theorem lIn : ∀ x ∈ zZ, x ∈ kJ 0 1 := by decide +kernel
noncomputable def z8c : Str := "abcdefghijklmnopqrstuvwxyz"
theorem z9a : ∀ i : Fin 26, (z8c.cps.toList[i.1]?).map (fun c => (⟨#[c]⟩ : Str)) = some (signs.getD i.1 "") := by decide +kernel
theorem z81 : z8c.length ≤ sizeLine := zq (by decide +kernel)
theorem z8Y {i : Nat} (h : i < 26) : ∃ c, atI z8c.cps.toList (0 + (i : Int)) = some c ∧ (⟨#[c]⟩ : Str) = signs.getD i "" := by
  have := z9a ⟨i, h⟩;cases e : z8c.cps.toList[i]? with
  | none => rw [e] at this; cases this
  | some c =>
    rw [e] at this;refine ⟨c, ?_, Option.some.inj this⟩;rw [Int.zero_add];exact zW e
theorem z1V {i : Nat} (h : i < 26) : signs.getD i "" ∈ signs := by
  rw [List.getD_eq_getElem?_getD, List.getElem?_eq_getElem (by show i < 26; exact h)];exact List.getElem_mem _
theorem z3Y {i : Nat} (h : i < 26) : signs.getD i "" ∈ signs.take (i + 1) := by
  have hl : i < signs.length := h;rw [List.getD_eq_getElem?_getD, List.getElem?_eq_getElem hl, List.take_add_one, List.getElem?_eq_getElem hl];exact List.mem_append_right _ (List.mem_singleton.mpr rfl)
section
variable {th : Str → List Str} {tr : Str → List (List Int)} {i used twice : Nat} {q : Qn}
theorem yZ (t : Nat) : 1 ≤ twM t ∧ twM t ≤ 4 := by unfold twM; split <;> (try split) <;> omega
theorem kn {a b i m : Nat} (h : a ≤ 2400 * (i + 1) * m) (hm : 1 ≤ m) (hb : b ≤ a + 2400) : b ≤ 2400 * (i + 1 + 1) * m := by
  have : 2400 * (i + 1 + 1) * m = 2400 * (i + 1) * m + 2400 * m := by rw [Nat.mul_add 2400 (i + 1) 1, Nat.add_mul, Nat.mul_one]
  omega
theorem Gr.big (g : Gr th tr i used twice q) (hi : i ≤ 24) : (zA q).length ≤ 240000 := by
  have h := g.line;have m := (yZ twice).2;have : 2400 * (i + 1) * twM twice ≤ 2400 * 25 * 4 := Nat.mul_le_mul (Nat.mul_le_mul_left _ (by omega)) m;omega
theorem Gr.wide (T : TabOk th tr) (g : Gr th tr i used twice q) (hi : i ≤ 26) (hu : used ≤ 3) : (zc th q).length ≤ 100 :=
  Nat.le_trans (ko (jm T g.ok).2 fun x hx => jg (g.heads x hx) hi hu) z2V
theorem Gr.pick (T : TabOk th tr) (g : Gr th tr i used twice q) {c : Cond} (sm : jo (zc th q) c) (sz : c.size ≤ 6) : Gr th tr (i + 1) used twice (.pick c q) where
  ok := ⟨sm, sz, g.ok⟩
  rows := Nat.le_trans (List.length_filter_le _ _) g.rows
  line := kn g.line (yZ _).1 (by have := z2W (zY T g.ok) sm sz; omega)
  heads := fun x hx => jg (g.heads x hx) (by omega) (Nat.le_refl _)
  dp := by have := g.dp; show depth q + 1 ≤ _; omega
  sub := g.sub
theorem Gr.cols (T : TabOk th tr) (g : Gr th tr i used twice q) (hi : i ≤ 24) (hu : used ≤ 3) {ns : List Str} (ne : ns ≠ []) (nd : ns.Nodup) (sub : ∀ n ∈ ns, n ∈ zc th q) : Gr th tr (i + 1) used twice (.cols ns q) where
  ok := ⟨ne, nd, sub, g.ok⟩
  rows := by show (List.map _ _).length ≤ _; rw [List.length_map]; exact g.rows
  line := kn g.line (yZ _).1 (by
    have jl := z2G fun n hn => zY T g.ok n (sub n hn)
    have wl := g.wide T (by omega) hu;have nl := ko nd sub;simp only [zA]
    (walk_at "sl"))
  heads := fun x hx => jg (g.heads x (sub x hx)) (by omega) (Nat.le_refl _)
  dp := by have := g.dp; show depth q + 1 ≤ _; omega
  sub := g.sub
theorem Gr.sort (T : TabOk th tr) (g : Gr th tr i used twice q) {n : Str} (m : n ∈ zc th q) : Gr th tr (i + 1) used twice (.sort n q) where
  ok := ⟨m, g.ok⟩
  rows := by show (z0L _ _).length ≤ _; rw [z29]; exact g.rows
  line := kn g.line (yZ _).1 (by
    have := zY T g.ok n m;simp only [zA]
    (walk_at "sl"))
  heads := fun x hx => jg (g.heads x hx) (by omega) (Nat.le_refl _)
  dp := by have := g.dp; show depth q + 1 ≤ _; omega
  sub := g.sub
theorem Gr.first (g : Gr th tr i used twice q) {n : Int} (m : n ∈ kO) : Gr th tr (i + 1) used twice (.first n q) where
  ok := ⟨m, g.ok⟩
  rows := by show (List.take _ _).length ≤ _; rw [List.length_take]; have := g.rows; omega
  line := kn g.line (yZ _).1 (by
    have := (kD n m).1;simp only [zA]
    (walk_at "sl"))
  heads := fun x hx => jg (g.heads x hx) (by omega) (Nat.le_refl _)
  dp := by have := g.dp; show depth q + 1 ≤ _; omega
  sub := g.sub
theorem Gr.firsts (g : Gr th tr i used twice q) {n n' : Int} (m : n ∈ kO) (m' : n' ∈ kO) : Gr th tr (i + 1) used twice (.first n' (.first n q)) where
  ok := ⟨m', m, g.ok⟩
  rows := by show (List.take _ (List.take _ _)).length ≤ _; rw [List.length_take, List.length_take]; have := g.rows; omega
  line := kn g.line (yZ _).1 (by
    have := (kD n m).1;have := (kD n' m').1;simp only [zA]
    (walk_at "sl"))
  heads := fun x hx => jg (g.heads x hx) (by omega) (Nat.le_refl _)
  dp := by have := g.dp; show depth q + 1 + 1 ≤ _; omega
  sub := g.sub
theorem Gr.group (T : TabOk th tr) (g : Gr th tr i used twice q) (hi : i < 26) (hu : used ≤ 3) {a b : Str} (ma : a ∈ zc th q) (mb : b ∈ zc th q) : Gr th tr (i + 1) used twice (.group a b (("n" : Str) ++ signs.getD i "") (("s" : Str) ++ signs.getD i "") q) where
  ok := by
    have ps := z7k ⟨i, hi⟩;have pa : a ∈ kJ i 3 := jg (g.heads a ma) (Nat.le_refl _) hu;exact ⟨ma, mb, ⟨_, z1V hi, rfl, rfl⟩, fun z => ps.1 (z ▸ pa), fun z => ps.2 (z ▸ pa), g.ok⟩
  rows := by
    show ((jA _ _).map _).length ≤ _
    rw [List.length_map];exact Nat.le_trans (z21 _) g.rows
  line := kn g.line (yZ _).1 (by
    have := zY T g.ok a ma;have := zY T g.ok b mb;have := z1m _ (z1V hi);simp only [zA]
    (walk_at "sl"))
  heads := fun x hx => by
    have hx' : x ∈ [a, (("n" : Str) ++ signs.getD i "" : Str), (("s" : Str) ++ signs.getD i "" : Str)] := hx;simp only [List.mem_cons, List.not_mem_nil, or_false] at hx';rcases hx' with rfl | rfl | rfl
    · exact jg (g.heads _ ma) (by omega) (Nat.le_refl _)
    · unfold kJ;exact List.mem_append_left _ (List.mem_append_right _ (List.mem_map.mpr ⟨_, z3Y hi, rfl⟩))
    · unfold kJ;exact List.mem_append_right _ (List.mem_map.mpr ⟨_, z3Y hi, rfl⟩)
  dp := by have := g.dp; show depth q + 1 ≤ _; omega
  sub := g.sub
theorem z3O {a b c i m m' : Nat} (h1 : a ≤ 2400 * (i + 1) * m) (hb : b ≤ a + 1000) (hc : c ≤ a + b + 100) (hm : 1 ≤ m) (h2 : m' = 2 * m) : c ≤ 2400 * (i + 1 + 1) * m' := by
  have e : 2400 * (i + 1 + 1) * m' = 2 * (2400 * (i + 1) * m) + 2 * (2400 * m) := by
    rw [h2, Nat.mul_add 2400 (i + 1) 1, Nat.add_mul, Nat.mul_one, Nat.mul_left_comm (2400 * (i + 1)) 2 m, Nat.mul_left_comm 2400 2 m]
  omega
theorem Gr.both (T : TabOk th tr) (g : Gr th tr i used twice q) (ht : twice < 2) {r q' : Qn} (okr : okQ th r) (eh : zc th r = zc th q) (lr : (zA r).length ≤ (zA q).length + 1000) (rr : (rowsOf th tr q).length + (rowsOf th tr r).length ≤ 60) (dr : depth r ≤ depth q + 1) (sr : yQ th tr r) (e : q' = .both q r ∨ q' = .both r q) : Gr th tr (i + 1) used (twice + 1) q' := by
  have hm : twM (twice + 1) = 2 * twM twice := by
    have : twice = 0 ∨ twice = 1 := by omega
    rcases this with rfl | rfl <;> rfl
  have gd := g.dp;rcases e with rfl | rfl
  · exact ⟨⟨eh.symm, g.ok, okr⟩, by show (rowsOf th tr q ++ rowsOf th tr r).length ≤ _; rw [List.length_append]; exact rr, z3O g.line lr (by simp only [zA]; (walk_at "sl")) (yZ _).1 hm, fun x hx => jg (g.heads x hx) (by omega) (Nat.le_refl _), by show max _ _ + 1 ≤ _; omega, ⟨g.sub, sr, rr⟩, fun _ => nofun⟩
  · exact ⟨⟨eh, okr, g.ok⟩, by show (rowsOf th tr r ++ rowsOf th tr q).length ≤ _; rw [List.length_append, Nat.add_comm]; exact rr, z3O g.line lr (by simp only [zA]; (walk_at "sl")) (yZ _).1 hm, fun x hx => jg (g.heads x (by rw [← eh]; exact hx)) (by omega) (Nat.le_refl _), by show max _ _ + 1 ≤ _; omega, ⟨sr, g.sub, by omega⟩, fun _ => nofun⟩
theorem Gr.unite (g : Gr th tr i used twice q) {n : Str} {q' : Qn} (u : Un2 th tr q n q') (hn : ∀ x ∈ th n, x ∈ kJ 0 (used + 1)) (hl : (rowsOf th tr q).length * (tr n).length ≤ 30) : Gr th tr (i + 1) (used + 1) twice q' where
  ok := u.ok
  rows := Nat.le_trans u.ln (by omega)
  line := kn g.line (yZ _).1 (by have := u.li; omega)
  heads := fun x hx => by
    have h1 : ∀ x ∈ zc th q, x ∈ kJ (i + 1) (used + 1) := fun x hx => jg (g.heads x hx) (by omega) (by omega)
    have h2 : ∀ x ∈ th n, x ∈ kJ (i + 1) (used + 1) := fun x hx => jg (hn x hx) (by omega) (Nat.le_refl _)
    rcases u.hd with e | e
    · rw [e] at hx;exact (List.mem_append.mp hx).elim (h1 x) (h2 x)
    · rw [e] at hx;exact (List.mem_append.mp hx).elim (h2 x) (h1 x)
  dp := by have := u.dp; have := g.dp; omega
  sub := u.sub g.sub (by omega)
  top := fun m e => absurd e (u.nt m)
end
noncomputable def z4t (K : PySem.W.Frag) : Sp := fun vs H Q _ => ∃ (cp tp : Addr) (ns : List Int) (th : Str → List Str) (tr : Str → List (List Int)), vs = [.ref cp, .ref tp] ∧ SqL K H cp (ns.map V.int) ∧ ns.length ≤ 24 ∧ TabOk th tr ∧ jP th tr H tp ∧
  ∀ (v' : V) (q : Qn) (used twice : Nat) (H' : Hp), zF H H' → yD th tr H' v' q → Gr th tr ns.length used twice q → used ≤ 3 → twice ≤ 2 → Q v' H'
theorem zL : FnScope ["_law_cells", "_law_tables", "_law_state", "_law_used", "_law_twice", "_law_k", "_law_seed", "_law_turn"] ["_law_cells", "_law_tables"] (zl kZ) := ⟨rfl, rfl, rfl, by decide +kernel, rfl, by decide +kernel, by decide +kernel⟩
set_option maxHeartbeats 1600000 in
theorem z3A (F : Fun K "_law_grown" "_law_grown" kZ f fd) (T : Txt K mg) (C_law_picked : Kn P w K mg base 8 "_law_picked" ["_law_state", "_law_seed"] (z1I K)) (C_law_columns : Kn P w K mg base 1 "_law_columns" ["_law_state", "_law_seed"] (z1X K)) (C_law_united : Kn P w K mg base 2 "_law_united" ["_law_state", "_law_table", "_law_seed"] (z38 K))
    (C_law_beside : Kn P w K mg base 1 "_law_beside" ["_law_state", "_law_table", "_law_seed"] (z2U K)) (C_law_doubled : Kn P w K mg base 9 "_law_doubled" ["_law_state", "_law_seed"] (z1Q K)) (C_law_headed : Kn P w K mg base 1 "_law_headed" ["_law_state", "_law_seed"] (z1k K)) (C_law_counted : Kn P w K mg base 1 "_law_counted" ["_law_state", "_law_seed", "_law_sign"] (z25 K)) (C_law_sorted : Kn P w K mg base 1 "_law_sorted" ["_law_state", "_law_seed"] (z1G K)) :
    FnOk P w K mg base CX0 10 f fd ["_law_cells", "_law_tables"] (z4t K) := by
  refine F.ok zL (fun vs H Q E h => ?_) (fun cdv A outer s H vs Q E hr h => ?_)
  · obtain ⟨cp, tp, ns, th, tr, rfl, _⟩ := h
    rfl
  obtain ⟨cp, tp, ns, th, tr, rfl, hS, hn, TT, h4, fin⟩ := h;have hu := z2X hr;have hln : (ns.map V.int).length = ns.length := List.length_map _;refine ⟨_, (zd (zo (i := 2) zL.nd rfl (Or.inl rfl) (zK (j8 (zK (zv zn (zv zn ze))) (zv zn (zk (zh zj (zh zz (pv 1) za (fun _ _ => rfl)) za (fun _ _ => rfl)) (zk (zh zj (zh zz (pv 1) za (fun _ _ => rfl)) za (fun _ _ => rfl)) ze))))))
    (zd (zo (i := 3) zL.nd rfl (Or.inl rfl) za)
    (zd (zo (i := 4) zL.nd rfl (Or.inl rfl) za)
    (zd (jH PassesOwn.never rfl (jW rfl T.range (zV (zx zu rfl T.len PySem.boot_len (zb (pv 0) ze)) ze)) (jf (i := 5) zL.nd rfl (Or.inl rfl))
      (zd (zo (i := 6) zL.nd rfl (Or.inl rfl) (zp yp (zp jQ (zh zz (pv 0) (pv 5) (fun _ _ => rfl)) za) (pv 5)))
      (zd (zo (i := 7) zL.nd rfl (Or.inl rfl) (zp zS (zp yp (zh zz (pv 0) (pv 5) (fun _ _ => rfl)) (zp z3c za (pv 5))) za))
      (zg (zO (zw z40 (pv 7) za (zC _))
        (zg (zo (i := 2) zL.nd rfl (Or.inl rfl) (zy C_law_picked hr.m rfl (zb (pv 2) (zb (pv 6) ze)))))
        (zg (zO (zw zT (pv 7) za (zC _))
          (zg (zo (i := 2) zL.nd rfl (Or.inl rfl) (zy C_law_columns hr.m rfl (zb (pv 2) (zb (pv 6) ze)))))
          (zg (zO (PW.pt (z2J (zw zT (pv 7) za (zC _)) (z2J (zw z40 (pv 3) za (zC _)) (z4x (zw z9u (zp z3c (zx zu rfl T.len PySem.boot_len (zk (zh zj (pv 2) za (fun _ _ => rfl)) ze)) (zx zu rfl T.len PySem.boot_len (zk (zh zj (zh zz (pv 1) (pv 3) (fun _ _ => rfl)) za (fun _ _ => rfl)) ze))) za (zC _))))))
            (zd (zo (i := 2) zL.nd rfl (Or.inl rfl) (zy C_law_united hr.m rfl (zb (pv 2) (zk (zh zz (pv 1) (pv 3) (fun _ _ => rfl)) (zb (pv 6) ze)))))
            (zg (zo (i := 3) zL.nd rfl (Or.inl rfl) (zp yp (pv 3) za))))
            (zg (zO (PW.pt (z2J (zw zT (pv 7) za (zC _)) (z2J (zw z40 (pv 4) za (zC _)) (z4x (zw z9u (zx zu rfl T.len PySem.boot_len (zk (zh zj (pv 2) za (fun _ _ => rfl)) ze)) (zp z2O za (zp z3c za (pv 4))) (zC _))))))
              (zd (zO (z1u (zw (z77 hu) (zh zj (pv 2) za (fun _ _ => rfl)) (zh zj (zh zz (pv 1) za (fun _ _ => rfl)) za (fun _ _ => rfl)) (zC _)) (zw zT (zp zS (pv 6) za) za (zC _)))
                (zg (zo (i := 2) zL.nd rfl (Or.inl rfl) (zy C_law_beside hr.m rfl (zb (pv 2) (zk (zh zz (pv 1) za (fun _ _ => rfl)) (zb (pv 6) ze))))))
                (zg (zo (i := 2) zL.nd rfl (Or.inl rfl) (zy C_law_doubled hr.m rfl (zb (pv 2) (zb (pv 6) ze))))))
              (zg (zo (i := 4) zL.nd rfl (Or.inl rfl) (zp yp (pv 4) za))))
              (zg (zO (zw zT (pv 7) za (zC _))
                (zg (zo (i := 2) zL.nd rfl (Or.inl rfl) (zy C_law_headed hr.m rfl (zb (pv 2) (zb (pv 6) ze)))))
                (zg (zO (zw zT (pv 7) za (zC _))
                  (zg (zo (i := 2) zL.nd rfl (Or.inl rfl) (zy C_law_counted hr.m rfl (zb (pv 2) (zb (pv 6) (zk (zh z9z zn (pv 5) (fun _ _ => rfl)) ze))))))
                  (zg (zo (i := 2) zL.nd rfl (Or.inl rfl) (zy C_law_sorted hr.m rfl (zb (pv 2) (zb (pv 6) ze))))))))))))))))))))
    (zg (zB (pv 2))))))), ?_⟩
  obtain ⟨v0, v1, v2, v3, f0, t0, t1, t2, t3⟩ := id h4;obtain ⟨p0, hp0, rp0, rs0, rfl, a1, a3, a4, a5⟩ := t0;refine ⟨zq (by show 2 ≤ _; decide), fun qp hqp => ?_⟩;refine zf (upd _ qp _) rfl hqp fun H1 n1 x1 => ?_
  refine ⟨_, rfl, tp, _, _, _, rfl, rfl, SqL.of (n1 _ _ f0), zQ, p0, _, _, _, rfl, rfl, SqT.of (n1 _ _ a1), jd, _, rfl, tp, _, _, _, rfl, rfl, SqL.of (n1 _ _ f0), zQ, p0, _, _, _, rfl, rfl, SqT.of (n1 _ _ a1), jx, zq (by show 4 ≤ _; decide), fun sp hsp => ?_⟩;refine zf (upd _ sp _) rfl hsp fun H2 n2 x2 => ?_
  have s2 := n1.trans n2;have st2 : yD th tr H2 (.ref sp) (.table "t") := ⟨sp, _, hp0, rp0, rs0, rfl, x2, ⟨qp, rfl, n2 _ _ x1⟩, s2 _ _ a3, a4.same s2, a5⟩;have tt : ("t" : Str) ∈ tabs := List.mem_cons_self;have g2 : Gr th tr 0 1 0 (.table "t") := by
    refine ⟨tt, TT.ct, ?_, fun x hx => ?_, by decide, TT.ct, fun n e => by cases e; rfl⟩
    · have : (zA (.table "t")).length ≤ 10 := by decide +kernel
      have : twM 0 = 1 := rfl;omega
    · obtain ⟨m, _, _, e⟩ := TT.t;have hx' : x ∈ th "t" := hx;rw [e] at hx';exact lIn x (List.mem_of_mem_take hx')
  refine ⟨_, rfl, cp, _, rfl, .inl (s2.seq hS), _, rfl, by omega, by rw [hln]; omega, ki (lo := 0) (n := (ns.map V.int).length) (fun i σ H' => ∃ (v : V) (q : Qn) (used twice : Nat) (o5 o6 o7 : Option V), σ = [some (.ref cp), some (.ref tp), some v, some (.int (used : Int)), some (.int (twice : Int)), o5, o6, o7] ∧ zF H H' ∧ yD th tr H' v q ∧ Gr th tr i used twice q ∧ 1 ≤ used ∧ used ≤ 3 ∧ twice ≤ 2)
    ⟨_, _, 1, 0, none, none, none, rfl, s2, st2, g2, by decide, by decide, by decide⟩ ?_ ?_⟩
  · rintro i σ H3 hi ⟨v, q, used, twice, o5, o6, o7, rfl, s3, st3, g3, u1, u3, w2⟩;rw [hln] at hi;have hi24 : i ≤ 24 := by omega
    have hat : atI (ns.map V.int) (0 + (i : Int)) = some (.int (ns.getD i 0)) := by
      rw [Int.zero_add]; exact zW (int_at hi)
    generalize ns.getD i 0 = c at hat
    have hS3 := s3.seq hS;have big := g3.big hi24;have rows := g3.rows;have wide := g3.wide TT (by omega) u3;refine ⟨_, rfl, _, rfl, cp, _, _, _, rfl, rfl, hS3, hat, _, _, rfl, rfl, ⟨by decide, by decide⟩, _, rfl, _, _, rfl, rfl, ?_⟩;refine ⟨_, rfl, _, rfl, cp, _, _, _, rfl, rfl, hS3, hat, _, rfl, _, _, rfl, rfl, .inl ⟨by decide, by decide⟩, _, _, rfl, rfl, _, _, rfl, rfl, (by show (0 : Int) < 9; decide), ?_⟩;refine ⟨_, rfl, _, _, rfl, rfl, _, rfl, ?_⟩;refine yM (fun b0 => ?_) (fun b0 => ?_)
    · refine ⟨_, rfl, _, rfl, th, tr, q, v, _, rfl, TT, st3, g3.ok, by omega, by omega, fun v' c' H' s' st' sm sz => ?_⟩;exact ⟨v', _, used, twice, _, _, _, rfl, s3.trans s', st', g3.pick TT sm sz, u1, u3, w2⟩
    refine ⟨_, rfl, rfl, _, rfl, ?_⟩;refine yM (fun b1 => ?_) (fun b1 => ?_)
    · refine ⟨_, rfl, _, rfl, th, tr, q, v, _, rfl, TT, st3, g3.ok, by omega, by omega, by omega, fun v' ns' H' s' st' ne nd sub => ?_⟩;exact ⟨v', _, used, twice, _, _, _, rfl, s3.trans s', st', g3.cols TT hi24 u3 ne nd sub, u1, u3, w2⟩
    refine z5N (z5D ?els) (fun els => ?main)
    case main =>
      refine ⟨_, rfl, rfl, _, rfl, ?_⟩;refine yM (fun b2 => ?_) (fun b2 => els);refine ⟨_, rfl, _, _, rfl, rfl, _, rfl, ?_⟩;refine yM (fun b3 => ?_) (fun b3 => els);have b3' : (used : Int) < 3 := of_decide_eq_true b3;obtain ⟨p, qv, hp, rp, rs, rfl, h1, h2, h3, h4', h5⟩ := id st3;have lrs : rs.length ≤ 60 := by rw [← h5, List.length_map] at rows; exact rows
      obtain ⟨tv, n, tat, ht, mn, hdj, hin, hrn⟩ : ∃ (tv : V) (n : Str), atI [V.ref p0, v1, v2, v3] (used : Int) = some tv ∧ TabAt th tr H3 tv n ∧ n ∈ tabs ∧ (∀ x ∈ zc th q, x ∉ th n) ∧ (∀ x ∈ th n, x ∈ kJ 0 (used + 1)) ∧ (tr n).length ≤ 10 := by
        have : used = 1 ∨ used = 2 := by omega
        rcases this with rfl | rfl
        · refine ⟨v1, _, jd, t1.same s3, by simp [tabs], fun x hx hy => ?_, ?_, TT.cw⟩
          · rw [TT.w] at hy;exact z9E x hy (jg (g3.heads x hx) (by omega) (Nat.le_refl _))
          · rw [TT.w]; exact wIn
        · refine ⟨v2, _, jx, t2.same s3, by simp [tabs], fun x hx hy => ?_, ?_, TT.cx⟩
          · rw [TT.x] at hy;exact zaa x hy (jg (g3.heads x hx) (by omega) (Nat.le_refl _))
          · rw [TT.x]; exact eIn
      obtain ⟨tp', thp, trp, ts, rfl, c1, c3, c4, c5⟩ := id ht;have lts : ts.length = (tr n).length := by rw [← c5, List.length_map]
      have f3 := s3 _ _ f0;refine ⟨_, rfl, p, _, _, _, rfl, rfl, SqT.of h1, z0h, rp, _, rfl, .inl (SqL.of h4'.1), _, rfl, _, rfl, tp, _, _, _, rfl, rfl, SqL.of f3, tat, tp', _, _, _, rfl, rfl, SqT.of c1, jx, trp, _, rfl, .inl (SqL.of c4.1), _, _, rfl, rfl, .inl ⟨by rw [List.length_map]; omega, by rw [List.length_map]; omega⟩, _, _, rfl, rfl, _, rfl, ?_⟩;refine yM (fun b4 => ?_) (fun b4 => els);have b4' := of_decide_eq_true b4;rw [List.length_map, List.length_map, lts] at b4';have b5 : (rowsOf th tr q).length * (tr n).length ≤ 30 := by
        rw [← h5, List.length_map]
        exact_mod_cast b4'
      have thl : (th n).length ≤ 1000 := by
        have : used = 1 ∨ used = 2 := by omega
        have := ko (TT.hd n mn).2 fun x hx => jg (hin x hx) (Nat.zero_le 26) (show used + 1 ≤ 3 by omega)
        have := z2V;omega
      refine ⟨_, rfl, _, rfl, _, rfl, tp, _, _, _, rfl, rfl, SqL.of f3, tat, _, rfl, th, tr, q, n, _, _, _, rfl, TT, st3, g3.ok, ht, mn, hdj, by omega, by omega, by omega, by omega, thl, fun v' q' H' s' st' un => ?_⟩;refine ⟨_, rfl, _, _, rfl, rfl, ?_⟩;exact ⟨v', q', used + 1, twice, _, _, _, rfl, s3.trans s', st', g3.unite un hin b5, by omega, by omega, w2⟩
    case els =>
      refine z5N (z5D ?els2) (fun els => ?main2)
      case main2 =>
        refine ⟨_, rfl, rfl, _, rfl, ?_⟩;refine yM (fun b2 => ?_) (fun b2 => els);refine ⟨_, rfl, _, _, rfl, rfl, _, rfl, ?_⟩;refine yM (fun b3 => ?_) (fun b3 => els);have b3' : (twice : Int) < 2 := of_decide_eq_true b3;have tw2 : twice < 2 := by omega
        obtain ⟨p, qv, hp, rp, rs, rfl, h1, h2, h3, h4', h5⟩ := id st3;refine ⟨_, rfl, p, _, _, _, rfl, rfl, SqT.of h1, z0h, rp, _, rfl, .inl (SqL.of h4'.1), _, rfl, _, _, rfl, rfl, .inl ⟨by decide, by decide⟩, _, _, rfl, rfl, _, _, rfl, rfl, _, rfl, ?_⟩;refine yM (fun b4 => ?_) (fun b4 => els);have b4' := of_decide_eq_true b4;rw [List.length_map] at b4';have b5 : (rowsOf th tr q).length ≤ 15 := by rw [← h5, List.length_map]; omega
        have f3 := s3 _ _ f0;obtain ⟨p3, hp3, rp3, rs3, rfl, d1, d3, d4, d5⟩ := id (t3.same s3);refine ⟨_, rfl, p, _, _, _, rfl, rfl, SqT.of h1, jx, _, rfl, tp, _, _, _, rfl, rfl, SqL.of f3, z0h, p3, _, _, _, rfl, rfl, SqT.of d1, jd, hp, hp3, _, _, rfl, rfl, SqL.of h3, SqL.of d3, zU _, zU _, _, rfl, _, ⟨_, rfl, _, _, rfl, rfl, (by show (0 : Int) < 3; decide), rfl, _, rfl, rfl, rfl⟩, ?_⟩;rw [z5g];refine yM (fun b6 => ?_) (fun b6 => ?_)
        · rw [Bool.and_eq_true] at b6;have eh : zc th q = th "tuvz" := of_decide_eq_true b6.1;refine ⟨_, rfl, _, rfl, tp, _, _, _, rfl, rfl, SqL.of f3, z0h, _, rfl, th, tr, q, "tuvz", _, _, _, rfl, st3, t3.same s3, eh, by decide +kernel, by omega, by omega, by rw [TT.cz]; decide, fun v' q' H' s' st' e' => ?_⟩;refine ⟨_, rfl, _, _, rfl, rfl, ?_⟩;have mz : ("tuvz" : Str) ∈ tabs := by simp [tabs]
          have lz : (zA (.table "tuvz")).length ≤ (zA q).length + 1000 := Nat.le_trans (show (zA (.table "tuvz")).length ≤ 10 by decide +kernel) (by omega);have rz : (rowsOf th tr q).length + (rowsOf th tr (.table "tuvz")).length ≤ 60 := by
            show _ + (tr "tuvz").length ≤ 60
            rw [TT.cz]; omega
          exact ⟨v', q', used, twice + 1, _, _, _, rfl, s3.trans s', st', g3.both TT tw2 (r := .table "tuvz") mz eh.symm lz rz (by show 1 ≤ _; omega) (z5b TT _ mz) e', u1, u3, by omega⟩
        · refine ⟨_, rfl, _, rfl, th, tr, q, _, _, rfl, TT, st3, g3.ok, by omega, by omega, fun v' q' c' H' s' st' sm sz e' => ?_⟩;refine ⟨_, rfl, _, _, rfl, rfl, ?_⟩;have gp := g3.pick TT sm sz;have rz : (rowsOf th tr q).length + (rowsOf th tr (.pick c' q)).length ≤ 60 := by
            have : (rowsOf th tr (.pick c' q)).length ≤ (rowsOf th tr q).length := List.length_filter_le _ _;omega
          exact ⟨v', q', used, twice + 1, _, _, _, rfl, s3.trans s', st', g3.both TT tw2 (r := .pick c' q) gp.ok rfl (z2W (zY TT g3.ok) sm sz) rz (by show depth q + 1 ≤ _; omega) g3.sub e', u1, u3, by omega⟩
      case els2 =>
        refine ⟨_, rfl, rfl, _, rfl, ?_⟩;refine yM (fun b2 => ?_) (fun b2 => ?_)
        · refine ⟨_, rfl, _, rfl, th, tr, q, v, _, rfl, st3, by omega, fun v' q' H' s' st' hq' => ?_⟩;obtain ⟨m, mm, rfl | ⟨m', mm', rfl⟩⟩ := hq'
          · exact ⟨v', _, used, twice, _, _, _, rfl, s3.trans s', st', g3.first mm, u1, u3, w2⟩
          · exact ⟨v', _, used, twice, _, _, _, rfl, s3.trans s', st', g3.firsts mm mm', u1, u3, w2⟩
        refine ⟨_, rfl, rfl, _, rfl, ?_⟩;refine yM (fun b3 => ?_) (fun b3 => ?_)
        · obtain ⟨ch, ec, es⟩ := z8Y (i := i) (by omega);have l1 := (z1m _ (z1V (i := i) (by omega))).2.2;refine ⟨_, rfl, _, rfl, _, rfl, z8c, _, _, rfl, rfl, z81, ec, th, tr, q, v, _, _, rfl, TT, st3, g3.ok, by rw [es]; exact l1, by omega, by omega, fun v' a b H' s' st' ma mb => ?_⟩;rw [es] at st';exact ⟨v', _, used, twice, _, _, _, rfl, s3.trans s', st', g3.group TT (by omega) u3 ma mb, u1, u3, w2⟩
        · refine ⟨_, rfl, _, rfl, th, tr, q, v, _, rfl, TT, st3, g3.ok, by omega, by omega, fun v' n' H' s' st' mn => ?_⟩;exact ⟨v', _, used, twice, _, _, _, rfl, s3.trans s', st', g3.sort TT mn, u1, u3, w2⟩
  · rintro σ H3 ⟨v, q, used, twice, o5, o6, o7, rfl, s3, st3, g3, u1, u3, w2⟩;rw [hln] at g3;exact ⟨_, rfl, fin v q used twice H3 s3 st3 g3 u3 w2⟩
theorem ints_snoc {zs : List Int} {z : Int} {j : Nat} (h : zs.length = j) : ∃ zs' : List Int, zs.map V.int ++ [V.int z] = zs'.map V.int ∧ zs'.length = j + 1 :=
  ⟨zs ++ [z], by rw [List.map_append]; rfl, by rw [List.length_append, h]; rfl⟩
theorem z9l {ns : List Int} (h : 0 < ns.length) : atI (ns.map V.int) (-1) = some (.int (ns.getD (ns.length - 1) 0)) := by
  have e := int_at (xs := ns) (i := ns.length - 1) (by omega);have h2 : ixN (ns.map V.int).length (-1) = some (ns.length - 1) := by
    unfold ixN;rw [if_neg (by decide), if_pos (by rw [List.length_map]; omega), List.length_map]
    congr 1
    omega
  unfold atI;rw [h2];exact e
structure Stk (H H' : Hp) (rp r0 r1 r2 : Addr) (a b c : List (Addr × List Int)) (hl : Nat) : Prop where
  same : zF H H'
  top : H' rp = some (.lst [.ref r0, .ref r1, .ref r2])
  h0 : RowsAt H' r0 a
  h1 : RowsAt H' r1 b
  h2 : RowsAt H' r2 c
  f0 : H r0 = none
  f1 : H r1 = none
  f2 : H r2 = none
  n01 : r0 ≠ r1
  n02 : r0 ≠ r2
  n12 : r1 ≠ r2
  np0 : rp ≠ r0
  np1 : rp ≠ r1
  np2 : rp ≠ r2
  a0 : ∀ r ∈ a, r.1 ≠ r0 ∧ r.1 ≠ r1 ∧ r.1 ≠ r2
  a1 : ∀ r ∈ b, r.1 ≠ r0 ∧ r.1 ≠ r1 ∧ r.1 ≠ r2
  a2 : ∀ r ∈ c, r.1 ≠ r0 ∧ r.1 ≠ r1 ∧ r.1 ≠ r2
  w0 : ∀ r ∈ a, r.2.length = hl
  w1 : ∀ r ∈ b, r.2.length = 2
  w2 : ∀ r ∈ c, r.2.length = 1
theorem Stk.new {H H' H1 : Hp} {rp r0 r1 r2 : Addr} {a b c : List (Addr × List Int)} {hl : Nat} (s : Stk H H' rp r0 r1 r2 a b c hl) (e : zF H' H1) : Stk H H1 rp r0 r1 r2 a b c hl :=
  { s with same := s.same.trans e, top := e _ _ s.top, h0 := s.h0.same e, h1 := s.h1.same e, h2 := s.h2.same e }
theorem Stk.fresh {H H' : Hp} {rp r0 r1 r2 q : Addr} {a b c : List (Addr × List Int)} {hl : Nat} (s : Stk H H' rp r0 r1 r2 a b c hl) (h : H' q = none) : q ≠ r0 ∧ q ≠ r1 ∧ q ≠ r2 :=
  ⟨(zr s.h0.1 h).symm, (zr s.h1.1 h).symm, (zr s.h2.1 h).symm⟩
theorem Stk.push0 {H H' : Hp} {rp r0 r1 r2 q : Addr} {a b c : List (Addr × List Int)} {hl : Nat} {x : List Int} (s : Stk H H' rp r0 r1 r2 a b c hl) (hq : H' q = some (.lst (x.map V.int))) (nq : q ≠ r0 ∧ q ≠ r1 ∧ q ≠ r2) (hx : x.length = hl) :
    Stk H (upd H' r0 (.lst (refs a ++ [V.ref q]))) rp r0 r1 r2 (a ++ [(q, x)]) b c hl where
  same := s.same.put s.f0
  top := by rw [zt s.np0]; exact s.top
  h0 := s.h0.push nq.1 hq
  h1 := s.h1.kp z1b s.n01.symm fun r m => (s.a1 r m).1
  h2 := s.h2.kp z1b s.n02.symm fun r m => (s.a2 r m).1
  f0 := s.f0
  f1 := s.f1
  f2 := s.f2
  n01 := s.n01
  n02 := s.n02
  n12 := s.n12
  np0 := s.np0
  np1 := s.np1
  np2 := s.np2
  a0 := fun r m => (List.mem_append.mp m).elim (s.a0 r) fun m => by rw [List.mem_singleton.mp m]; exact nq
  a1 := s.a1
  a2 := s.a2
  w0 := fun r m => (List.mem_append.mp m).elim (s.w0 r) fun m => by rw [List.mem_singleton.mp m]; exact hx
  w1 := s.w1
  w2 := s.w2
theorem Stk.push1 {H H' : Hp} {rp r0 r1 r2 q : Addr} {a b c : List (Addr × List Int)} {hl : Nat} {x : List Int} (s : Stk H H' rp r0 r1 r2 a b c hl) (hq : H' q = some (.lst (x.map V.int))) (nq : q ≠ r0 ∧ q ≠ r1 ∧ q ≠ r2) (hx : x.length = 2) :
    Stk H (upd H' r1 (.lst (refs b ++ [V.ref q]))) rp r0 r1 r2 a (b ++ [(q, x)]) c hl where
  same := s.same.put s.f1
  top := by rw [zt s.np1]; exact s.top
  h0 := s.h0.kp z1b s.n01 fun r m => (s.a0 r m).2.1
  h1 := s.h1.push nq.2.1 hq
  h2 := s.h2.kp z1b s.n12.symm fun r m => (s.a2 r m).2.1
  f0 := s.f0
  f1 := s.f1
  f2 := s.f2
  n01 := s.n01
  n02 := s.n02
  n12 := s.n12
  np0 := s.np0
  np1 := s.np1
  np2 := s.np2
  a0 := s.a0
  a1 := fun r m => (List.mem_append.mp m).elim (s.a1 r) fun m => by rw [List.mem_singleton.mp m]; exact nq
  a2 := s.a2
  w0 := s.w0
  w1 := fun r m => (List.mem_append.mp m).elim (s.w1 r) fun m => by rw [List.mem_singleton.mp m]; exact hx
  w2 := s.w2
theorem Stk.push2 {H H' : Hp} {rp r0 r1 r2 q : Addr} {a b c : List (Addr × List Int)} {hl : Nat} {x : List Int} (s : Stk H H' rp r0 r1 r2 a b c hl) (hq : H' q = some (.lst (x.map V.int))) (nq : q ≠ r0 ∧ q ≠ r1 ∧ q ≠ r2) (hx : x.length = 1) :
    Stk H (upd H' r2 (.lst (refs c ++ [V.ref q]))) rp r0 r1 r2 a b (c ++ [(q, x)]) hl where
  same := s.same.put s.f2
  top := by rw [zt s.np2]; exact s.top
  h0 := s.h0.kp z1b s.n02 fun r m => (s.a0 r m).2.2
  h1 := s.h1.kp z1b s.n12 fun r m => (s.a1 r m).2.2
  h2 := s.h2.push nq.2.2 hq
  f0 := s.f0
  f1 := s.f1
  f2 := s.f2
  n01 := s.n01
  n02 := s.n02
  n12 := s.n12
  np0 := s.np0
  np1 := s.np1
  np2 := s.np2
  a0 := s.a0
  a1 := s.a1
  a2 := fun r m => (List.mem_append.mp m).elim (s.a2 r) fun m => by rw [List.mem_singleton.mp m]; exact nq
  w0 := s.w0
  w1 := s.w1
  w2 := fun r m => (List.mem_append.mp m).elim (s.w2 r) fun m => by rw [List.mem_singleton.mp m]; exact hx
theorem zJ : FnScope ["_law_cells", "_law_more", "_law_rows", "_law_heads", "_law_k", "_law_cell", "_law_one", "_law_other", "_law_rest", "_law_first", "_law_made"] ["_law_cells", "_law_more"] (zl ji) := ⟨rfl, rfl, rfl, by decide +kernel, rfl, by decide +kernel, by decide +kernel⟩
set_option maxHeartbeats 1600000 in
theorem z2u (F : Fun K "_law_stocked" "_law_stocked" ji f fd) (T : Txt K mg) : FnOk P w K mg base CX0 1 f fd ["_law_cells", "_law_more"] (z1R K) := by
  refine F.ok zJ (fun vs H Q E h => ?_) (fun cdv A outer s H vs Q E hr h => ?_)
  · obtain ⟨cp, ns, more, rfl, _⟩ := h
    rfl
  obtain ⟨cp, ns, more, rfl, hS, hn, hm0, hm1, fin⟩ := h;have hln : (ns.map V.int).length = ns.length := List.length_map _;have z0 : 0 ≤ sizeLine := by decide
  refine ⟨_, (zd (zo (i := 2) zJ.nd rfl (Or.inl rfl) (zI (yf (zI ze) (yf (zI ze) (yf (zI ze) ze)))))
    (zd (zo (i := 3) zJ.nd rfl (Or.inr rfl) (zI (zv zn (zv zn (zv zn (zv zn (zv zn (zv zn (zv zn (zv zn (zv zn (zv zn (zv zn (zv zn ze))))))))))))))
    (zd (zo (i := 3) zJ.nd rfl (Or.inr rfl) (jn yy (pv 3) jS (jG (zh zz (zI (ya (zp yp za (zp zS (zx (z0E rfl) rfl T.sum PyProof.Rows.boot_sum (zk (jn yy (pv 0) jS (jG za)) ze)) za)) (zv za ze))) (jq z3H rfl T.int PyProof.Rows.boot_int (z6N (kP zT (zp zS (zx (z0E rfl) rfl T.sum PyProof.Rows.boot_sum (zk (jn yy (pv 0) jS (jG za)) ze)) za) za (zC _)) ze)) (fun _ _ => rfl)))))
    (zd (jH PassesOwn.never rfl (jW rfl T.range (zV (zx (z7q rfl) rfl T.max PyProof.Rows.boot_max (zv za (zV (zx zu rfl T.len PySem.boot_len (zb (pv 0) ze)) ze))) ze)) (jf (i := 4) zJ.nd rfl (Or.inr rfl))
      (zd (zo (i := 5) zJ.nd rfl (Or.inr rfl) (zp yp (zp z3c za (pv 4)) za))
      (zd (kK (zw z40 (pv 4) (zx zu rfl T.len PySem.boot_len (zb (pv 0) ze)) (zC _))
        (zg (zo (i := 5) zJ.nd rfl (Or.inr rfl) (zh zz (pv 0) (pv 4) (fun _ _ => rfl))))
        zE)
      (zd (zo (i := 6) zJ.nd rfl (Or.inl rfl) (zp z2O (zp zS (pv 5) za) za))
      (zd (zo (i := 7) zJ.nd rfl (Or.inl rfl) (zp z2O (zp zS (zp yp (zp jQ (pv 5) za) (pv 4)) za) za))
      (zd (kK (zw zT (zp zS (pv 5) za) za (zC _))
        (zg (zo (i := 7) zJ.nd rfl (Or.inl rfl) (zp yp (pv 7) (z2z ⟨by decide, by decide, by decide⟩))))
        zE)
      (zd (yb (j := 8) rfl zJ.nd rfl (Or.inl rfl) (CompSc.of (sx := zl ji) (NX := ["_law_cells", "_law_more", "_law_rows", "_law_heads", "_law_k", "_law_cell", "_law_one", "_law_other", "_law_rest", "_law_first", "_law_made"]) (fr := ["_law_cell", "_law_k"]) (ix := [5, 4]) rfl rfl (by decide +kernel)) (z72 rfl T.range (zv za (zV (zx zu rfl T.len PySem.boot_len (zb (pv 3) ze)) ze))) (fun _ _ _ _ _ _ => jr) (fun _ _ _ _ _ _ => (zp zS (zp yp (zp yp (zp jQ (pv 1) za) (pv 2)) (pv 0)) za)))
      (zd (zo (i := 9) zJ.nd rfl (Or.inl rfl) (zp yS (zI (zb (pv 6) (zb (pv 7) ze))) (pv 8)))
      (zg (jc (jF PySem.F.plainAttrs_list PySem.F.slot_list_append PySem.F.type_list_append jz (zh zz (pv 2) (zp zS (pv 4) za) (fun _ _ => rfl)) (zk (zh zz (zI (zb (pv 9) (yf (zI (zb (pv 7) (zb (pv 6) ze))) (yf (zI (zb (pv 6) ze)) ze)))) (zp zS (pv 4) za) (fun _ _ => rfl)) ze))))))))))))
    (zd (kK (zw zT (zp zS (zx (z0E rfl) rfl T.sum PyProof.Rows.boot_sum (zk (jn yy (pv 0) (jG (z3G z1K za)) jS) ze)) za) za (zC _))
      (zg (jH PassesOwn.never rfl (jW rfl T.range (zb (pv 1) ze)) (jf (i := 4) zJ.nd rfl (Or.inr rfl))
        (zg (jc (jF PySem.F.plainAttrs_list PySem.F.slot_list_append PySem.F.type_list_append jz (zh zz (pv 2) za (fun _ _ => rfl)) (z1g (jR rfl (CompSc.of (sx := zl ji) (NX := ["_law_cells", "_law_more", "_law_rows", "_law_heads", "_law_k", "_law_cell", "_law_one", "_law_other", "_law_rest", "_law_first", "_law_made"]) (fr := ["_law_k"]) (ix := [4]) rfl rfl (by decide +kernel)) (jW rfl T.range (zV (zx zu rfl T.len PySem.boot_len (zb (pv 3) ze)) ze)) (fun _ _ _ _ _ _ => jr) (fun _ _ _ _ _ _ => (zp z2O (zp zS (zp yp (pv 1) (pv 0)) za) za))) ze))))))
      zE)
    (zd (kK (PW.pt (z2J (zw z4W (zx zu rfl T.len PySem.boot_len (zb (pv 0) ze)) za (zC _)) (z4x (zw zT (zp zS (zh zz (pv 0) za (fun _ _ => rfl)) za) za (zC _)))))
      (zg (z9M (zI ze) (za5 (pv 2) (zp zS (zh zz (pv 0) (z3G z1K za) (fun _ _ => rfl)) za) set_list)))
      zE)
    (zd (zo (i := 10) zJ.nd rfl (Or.inl rfl) (zI (j8 (zK (zv zn (zb (pv 3) (zk (zh zz (pv 2) za (fun _ _ => rfl)) ze)))) (j8 (zK (zv zn (yf (zI (zv zn (zv zn ze))) (zk (zh zz (pv 2) za (fun _ _ => rfl)) ze)))) ze))))
    (zd (yb (j := 7) rfl zJ.nd rfl (Or.inl rfl) (CompSc.of (sx := zl ji) (NX := ["_law_cells", "_law_more", "_law_rows", "_law_heads", "_law_k", "_law_cell", "_law_one", "_law_other", "_law_rest", "_law_first", "_law_made"]) (fr := ["_law_heads"]) (ix := [3]) rfl rfl (by decide +kernel)) (jW rfl T.range (zv za ze)) (fun _ _ _ _ _ _ => jr) (fun _ _ _ _ _ _ => (jR rfl (CompSc.of2 (sx := zl ji) (NX := ["_law_m", "_law_heads"]) (fr := ["_law_m"]) (ix := [0]) rfl rfl (by decide +kernel)) (jW rfl T.range (zV (zx (z3q (K := K) rfl) rfl T.len PySem.boot_len (zb (pv 1) ze)) ze)) (fun _ _ _ _ _ _ => jr) (fun _ _ _ _ _ _ => (zp z2O (zp zS (zp yp (zp z3c za (pv 1)) (pv 0)) za) za)))))
    (zg (zB (zp yS (pv 10) (zI (j8 (zK (zv zn (yf (zI (zv zn ze)) (zk (zh zz (pv 2) za (fun _ _ => rfl)) ze)))) (j8 (zK (zv zn (zV (jq yR rfl T.list PyProof.Rows.boot_list (zb (pv 3) ze)) (zb (pv 7) ze)))) ze)))))))))))))), ?_⟩
  refine ⟨z0, fun r0 hr0 => ?_⟩;refine zf (upd _ r0 _) rfl hr0 fun H1 n1 x1 => ?_
  refine ⟨z0, fun r1 hr1 => ?_⟩;refine zf (upd _ r1 _) rfl hr1 fun H2 n2 x2 => ?_
  refine ⟨z0, fun r2 hr2 => ?_⟩;refine zf (upd _ r2 _) rfl hr2 fun H3 n3 x3 => ?_
  refine ⟨zq (by show 3 ≤ _; decide), fun rp hrp => ?_⟩;refine zf (upd _ rp _) rfl hrp fun H4 n4 x4 => ?_
  refine ⟨zq (by show 12 ≤ _; decide), fun hp0 hhp0 => ?_⟩;refine zf (upd _ hp0 _) rfl hhp0 fun H5 n5 x5 => ?_
  replace x5 : H5 hp0 = some (.lst (zZ.map V.str)) := x5;have s3 := n1.trans (n2.trans n3);have s5 := s3.trans (n4.trans n5);have stk5 : ∀ hl, Stk H H5 rp r0 r1 r2 [] [] [] hl := fun hl => ⟨s5, n5 _ _ x4, yi (n5 _ _ (n4 _ _ (n3 _ _ (n2 _ _ x1)))), yi (n5 _ _ (n4 _ _ (n3 _ _ x2))), yi (n5 _ _ (n4 _ _ x3)), hr0, n1.free hr1, (n1.trans n2).free hr2, zr x1 hr1, zr (n2 _ _ x1) hr2, zr x2 hr2,
    (zr (n3 _ _ (n2 _ _ x1)) hrp).symm, (zr (n3 _ _ x2) hrp).symm, (zr x3 hrp).symm, fun _ z => (by cases z), fun _ z => (by cases z), fun _ z => (by cases z), fun _ z => (by cases z), fun _ z => (by cases z), fun _ z => (by cases z)⟩
  refine ⟨_, rfl, _, rfl, _, rfl, cp, _, rfl, s5.seq hS, fun l1 hl1 => ?_⟩;rw [z0Q];refine zf (upd _ l1 _) rfl hl1 fun H6 n6 x6 => ?_
  refine ⟨l1, _, rfl, SqL.of x6, _, _, rfl, rfl, (by show (0 : Int) < 5; decide), _, _, rfl, rfl, zq (by show 2 ≤ _; decide), fun l2 hl2 => ?_⟩;generalize ((ns.drop (HT.sIx ns.length 0 none)).take (HT.sIx ns.length ns.length (some 1) - HT.sIx ns.length 0 none)).sum = sm;refine zf (upd _ l2 _) rfl hl2 fun H7 n7 x7 => ?_
  refine ⟨_, rfl, _, rfl, cp, _, rfl, (s5.trans (n6.trans n7)).seq hS, fun l3 hl3 => ?_⟩;rw [z0Q];refine zf (upd _ l3 _) rfl hl3 fun H8 n8 x8 => ?_
  refine ⟨l3, _, rfl, SqL.of x8, _, _, rfl, rfl, (by show (0 : Int) < 11; decide), rfl, .inr ⟨_, rfl, ?_⟩⟩;have n58 := n6.trans (n7.trans n8);obtain ⟨m, m1, m2, em⟩ : ∃ m : Int, 2 ≤ m ∧ m ≤ 12 ∧ atI [V.int (2 + sm % 5), V.int 12] (if decide (V.int (((ns.drop (HT.sIx ns.length 0 none)).take (HT.sIx ns.length ns.length (some 1) - HT.sIx ns.length 0 none)).sum % 11) = V.int 4) = true then 1 else 0) = some (.int m) := by
    cases decide (V.int (((ns.drop (HT.sIx ns.length 0 none)).take (HT.sIx ns.length ns.length (some 1) - HT.sIx ns.length 0 none)).sum % 11) = V.int 4) with
    | true => exact ⟨12, by decide, by decide, jd⟩
    | false => exact ⟨2 + sm % 5, by omega, by omega, zQ⟩
  refine ⟨l2, _, _, _, rfl, rfl, SqL.of (n8 _ _ x7), em, _, rfl, hp0, _, rfl, SqL.of (n58 _ _ x5), fun hp hhp => ?_⟩;rw [z0n (by omega), ← List.map_take];refine zf (upd _ hp _) rfl hhp fun H9 n9 x9 => ?_
  have hl12 : (zZ.take m.toNat).length = m.toNat := by
    rw [List.length_take];have : zZ.length = 12 := rfl;omega
  have stk9 := (stk5 m.toNat).new (n58.trans n9);have hhl : ((zZ.take m.toNat).map V.str).length = m.toNat := by rw [List.length_map, hl12]
  have nh0 : hp ≠ r0 := (zr ((n58 _ _ ((stk5 0).h0.1))) hhp).symm;have nh1 : hp ≠ r1 := (zr ((n58 _ _ ((stk5 0).h1.1))) hhp).symm;have nh2 : hp ≠ r2 := (zr ((n58 _ _ ((stk5 0).h2.1))) hhp).symm;have nhp : hp ≠ rp := (zr ((n58 _ _ ((stk5 0).top))) hhp).symm;have hpH : ∀ {H' : Hp}, zF H9 H' → H' hp = some (.lst ((zZ.take m.toNat).map V.str)) := fun e => e _ _ x9
  have emax : (if (((ns.map V.int).length : Nat) : Int) > 12 then (((ns.map V.int).length : Nat) : Int) else 12) = ((max 12 ns.length : Nat) : Int) := by
    rw [hln]; split <;> omega
  refine ⟨_, rfl, cp, _, rfl, .inl (stk9.same.seq hS), _, _, rfl, ((max 12 ns.length : Nat) : Int), congrArg (fun z => [V.int z]) emax, by omega, by omega, ki (lo := 0) (n := max 12 ns.length) (fun i σ H' => ∃ (a b c : List (Addr × List Int)) (o4 o5 o6 o7 o8 o9 : Option V), σ = [some (.ref cp), some (.int more), some (.ref rp), some (.ref hp), o4, o5, o6, o7, o8, o9, none] ∧ Stk H H' rp r0 r1 r2 a b c m.toNat ∧ H' hp = some (.lst ((zZ.take m.toNat).map V.str)) ∧
    a.length = (i + 2) / 3 ∧ b.length = (i + 1) / 3 ∧ c.length = i / 3) ⟨[], [], [], none, none, none, none, none, none, rfl, stk9, x9, rfl, rfl, rfl⟩ ?_ ?_⟩
  · rintro i σ G hi ⟨a, b, c, o4, o5, o6, o7, o8, o9, rfl, k0, hhp0, la, lb, lc⟩;have hi18 : i < 18 := by omega
    refine ⟨_, rfl, _, _, rfl, rfl, .inl ⟨by decide, by decide⟩, _, _, rfl, rfl, ?_⟩;refine ⟨fun σ G' => ∃ cell : Int, σ = [some (.ref cp), some (.int more), some (.ref rp), some (.ref hp), some (.int (0 + (i : Int))), some (.int cell), o6, o7, o8, o9, none] ∧ G' = G, ?_, ?_⟩
    · refine ⟨_, rfl, _, rfl, cp, _, rfl, .inl (k0.same.seq hS), _, _, rfl, rfl, _, rfl, ?_⟩;refine yM (fun hb => ?_) (fun hb => ?_)
      · have hb' := of_decide_eq_true hb;rw [hln] at hb';have hat : atI (ns.map V.int) (0 + (i : Int)) = some (.int (ns.getD i 0)) := by rw [Int.zero_add]; exact zW (int_at (by omega))
        refine ⟨_, rfl, _, rfl, cp, _, _, _, rfl, rfl, k0.same.seq hS, hat, ?_⟩;exact ⟨_, rfl, rfl⟩
      · exact ⟨_, rfl, rfl⟩
    rintro σ G ⟨cell, rfl, rfl⟩;refine ⟨_, rfl, _, _, rfl, rfl, (by show (0 : Int) < 4; decide), _, _, rfl, rfl, ?_⟩;refine ⟨_, rfl, _, _, rfl, rfl, ⟨by decide, by decide⟩, _, rfl, _, _, rfl, rfl, _, _, rfl, rfl, (by show (0 : Int) < 5; decide), _, _, rfl, rfl, ?_⟩;refine ⟨fun σ G' => ∃ one other : Int, σ = [some (.ref cp), some (.int more), some (.ref rp), some (.ref hp), some (.int (0 + (i : Int))), some (.int cell), some (.int one), some (.int other), o8, o9, none] ∧ G' = G, ?_, ?_⟩
    · refine ⟨_, rfl, _, _, rfl, rfl, (by show (0 : Int) < 23; decide), rfl, _, rfl, ?_⟩;refine yM (fun hb => ?_) (fun hb => ?_)
      · refine ⟨_, rfl, _, _, rfl, rfl, ?_⟩;exact ⟨_, _, rfl, rfl⟩
      · exact ⟨_, _, rfl, rfl⟩
    rintro σ G ⟨one, other, rfl, rfl⟩;refine ⟨_, rfl, hp, _, rfl, .inl (SqL.of hhp0), 2, (m.toNat : Int), congrArg (fun z : Nat => [V.int 2, V.int ((z : Nat) : Int)]) hhl, ⟨by omega, by omega, by omega, by omega⟩, ?_⟩;refine kE (lo := 2) (n := ((m.toNat : Int) - 2).toNat) (fun j ys H' => H' = G ∧ ∃ zs : List Int, ys = zs.map V.int ∧ zs.length = j) ⟨rfl, [], rfl, rfl⟩ ?_ ?_ ?_
    · rintro j ys G' hj ⟨rfl, zs, rfl, lz⟩;exact zH (by rw [List.length_map]; omega)
    · rintro j ys G' hj ⟨rfl, zs, rfl, lz⟩;refine ⟨_, rfl, _, _, rfl, rfl, ⟨by decide, by decide⟩, _, rfl, _, _, rfl, rfl, _, rfl, _, _, rfl, rfl, _, _, rfl, rfl, (by show (0 : Int) < 3; decide), rfl, ints_snoc lz⟩
    rintro ys G ⟨rfl, rest, rfl, lrest⟩ tp htp;refine zf (upd _ tp _) rfl htp fun G1 e1 y1 => ?_
    have hrl : 2 + rest.length = m.toNat := by omega
    refine ⟨_, rfl, _, rfl, zq (by show 2 ≤ _; decide), fun l4 hl4 => ?_⟩;refine zf (upd _ l4 _) rfl hl4 fun G2 e2 y2 => ?_
    refine ⟨_, rfl, l4, tp, _, _, rfl, rfl, y2, e2 _ _ y1, zq (by rw [List.length_map]; simp only [List.length_cons, List.length_nil]; omega), fun fp hfp => ?_⟩;have k2 := k0.new (e1.trans e2);have nf := k2.fresh hfp;refine zf (upd _ fp _) rfl hfp fun G3 e3 x9 => ?_
    replace x9 : G3 fp = some (.lst (([one, other] ++ rest).map V.int)) := by rw [x9, List.map_append]; rfl
    have k3 := k2.new e3;have hp3 := (e1.trans (e2.trans e3)) _ _ hhp0;have h3' : i % 3 = 0 ∨ i % 3 = 1 ∨ i % 3 = 2 := by omega
    rcases h3' with h3n | h3n | h3n
    · have h3 : (0 + (i : Int)) % 3 = 0 := by omega
      have at3 : atI [V.ref r0, V.ref r1, V.ref r2] ((0 + (i : Int)) % 3) = some (V.ref r0) := by rw [h3]; exact zQ
      refine ⟨_, rfl, _, rfl, _, _, rfl, rfl, (by show (0 : Int) < 3; decide), rp, _, _, _, rfl, rfl, SqL.of k3.top, at3, .inl ⟨rfl, _, SqL.of k3.h0.1⟩, _, rfl, _, rfl, _, rfl, zq (by show 2 ≤ _; decide), fun u1 hu1 => ?_⟩;refine zf (upd _ u1 _) rfl hu1 fun G4 m1' y4 => ?_
      refine ⟨_, rfl, zq (by show 1 ≤ _; decide), fun u2 hu2 => ?_⟩;refine zf (upd _ u2 _) rfl hu2 fun G5 m2' y5 => ?_
      refine ⟨zq (by show 3 ≤ _; decide), fun u3 hu3 => ?_⟩;refine zf (upd _ u3 _) rfl hu3 fun G6 m3' y6 => ?_
      have k6 := k3.new (m1'.trans (m2'.trans m3'));have hp6 := (m1'.trans (m2'.trans m3')) _ _ hp3;refine ⟨_, rfl, _, _, rfl, rfl, (by show (0 : Int) < 3; decide), u3, _, _, _, rfl, rfl, SqL.of y6, by rw [h3]; exact zQ, r0, _, _, rfl, rfl, k6.h0.1, zH (by rw [List.length_map]; omega), ?_⟩;refine ⟨_, _, _, _, _, _, _, _, _, rfl, k6.push0 (x := [one, other] ++ rest) ((m1'.trans (m2'.trans m3')) _ _ x9) nf (by simp; omega), by rw [zt nh0]; exact hp6, by rw [List.length_append, List.length_singleton]; omega, by omega, by omega⟩
    · have h3 : (0 + (i : Int)) % 3 = 1 := by omega
      have at3 : atI [V.ref r0, V.ref r1, V.ref r2] ((0 + (i : Int)) % 3) = some (V.ref r1) := by rw [h3]; exact jd
      refine ⟨_, rfl, _, rfl, _, _, rfl, rfl, (by show (0 : Int) < 3; decide), rp, _, _, _, rfl, rfl, SqL.of k3.top, at3, .inl ⟨rfl, _, SqL.of k3.h1.1⟩, _, rfl, _, rfl, _, rfl, zq (by show 2 ≤ _; decide), fun u1 hu1 => ?_⟩;refine zf (upd _ u1 _) rfl hu1 fun G4 m1' y4 => ?_
      refine ⟨_, rfl, zq (by show 1 ≤ _; decide), fun u2 hu2 => ?_⟩;refine zf (upd _ u2 _) rfl hu2 fun G5 m2' y5 => ?_
      refine ⟨zq (by show 3 ≤ _; decide), fun u3 hu3 => ?_⟩;refine zf (upd _ u3 _) rfl hu3 fun G6 m3' y6 => ?_
      have k6 := k3.new (m1'.trans (m2'.trans m3'));have hp6 := (m1'.trans (m2'.trans m3')) _ _ hp3;refine ⟨_, rfl, _, _, rfl, rfl, (by show (0 : Int) < 3; decide), u3, _, _, _, rfl, rfl, SqL.of y6, by rw [h3]; exact jd, r1, _, _, rfl, rfl, k6.h1.1, zH (by rw [List.length_map]; omega), ?_⟩;refine ⟨_, _, _, _, _, _, _, _, _, rfl, k6.push1 (x := [other, one]) (m3' _ _ (m2' _ _ y4)) (k3.fresh hu1) rfl, by rw [zt nh1]; exact hp6, by omega, by rw [List.length_append, List.length_singleton]; omega, by omega⟩
    · have h3 : (0 + (i : Int)) % 3 = 2 := by omega
      have at3 : atI [V.ref r0, V.ref r1, V.ref r2] ((0 + (i : Int)) % 3) = some (V.ref r2) := by rw [h3]; exact jx
      refine ⟨_, rfl, _, rfl, _, _, rfl, rfl, (by show (0 : Int) < 3; decide), rp, _, _, _, rfl, rfl, SqL.of k3.top, at3, .inl ⟨rfl, _, SqL.of k3.h2.1⟩, _, rfl, _, rfl, _, rfl, zq (by show 2 ≤ _; decide), fun u1 hu1 => ?_⟩;refine zf (upd _ u1 _) rfl hu1 fun G4 m1' y4 => ?_
      refine ⟨_, rfl, zq (by show 1 ≤ _; decide), fun u2 hu2 => ?_⟩;refine zf (upd _ u2 _) rfl hu2 fun G5 m2' y5 => ?_
      refine ⟨zq (by show 3 ≤ _; decide), fun u3 hu3 => ?_⟩;refine zf (upd _ u3 _) rfl hu3 fun G6 m3' y6 => ?_
      have k6 := k3.new (m1'.trans (m2'.trans m3'));have hp6 := (m1'.trans (m2'.trans m3')) _ _ hp3;refine ⟨_, rfl, _, _, rfl, rfl, (by show (0 : Int) < 3; decide), u3, _, _, _, rfl, rfl, SqL.of y6, by rw [h3]; exact jx, r2, _, _, rfl, rfl, k6.h2.1, zH (by rw [List.length_map]; omega), ?_⟩;refine ⟨_, _, _, _, _, _, _, _, _, rfl, k6.push2 (x := [one]) (m3' _ _ y5) ((k3.new m1').fresh hu2) rfl, by rw [zt nh2]; exact hp6, by omega, by omega, by rw [List.length_append, List.length_singleton]; omega⟩
  rintro σ G ⟨a, b, c, o4, o5, o6, o7, o8, o9, rfl, k0, hh0, la, lb, lc⟩;have la' : a.length ≤ 7 := by omega
  have lb' : b.length ≤ 7 := by omega
  have lc' : c.length ≤ 7 := by omega
  refine ⟨fun σ G' => ∃ (a : List (Addr × List Int)) (o4 : Option V), σ = [some (.ref cp), some (.int more), some (.ref rp), some (.ref hp), o4, o5, o6, o7, o8, o9, none] ∧ Stk H G' rp r0 r1 r2 a b c m.toNat ∧ G' hp = some (.lst ((zZ.take m.toNat).map V.str)) ∧ a.length ≤ 60, ?_, ?_⟩
  · refine ⟨_, rfl, _, rfl, _, rfl, cp, _, rfl, k0.same.seq hS, fun l5 hl5 => ?_⟩;rw [z0Q];refine zf (upd _ l5 _) rfl hl5 fun G1 e1 y1 => ?_
    refine ⟨l5, _, rfl, SqL.of y1, _, _, rfl, rfl, (by show (0 : Int) < 8; decide), rfl, _, rfl, ?_⟩;have k1 := k0.new e1;refine yM (fun hb => ?_) (fun hb => ?_)
    · refine ⟨_, rfl, more, rfl, by omega, by omega, ki (lo := 0) (n := more.toNat) (fun i σ G' => ∃ (a : List (Addr × List Int)) (o4 : Option V), σ = [some (.ref cp), some (.int more), some (.ref rp), some (.ref hp), o4, o5, o6, o7, o8, o9, none] ∧ Stk H G' rp r0 r1 r2 a b c m.toNat ∧ G' hp = some (.lst ((zZ.take m.toNat).map V.str)) ∧ a.length ≤ 7 + i) ⟨a, o4, rfl, k1, e1 _ _ hh0, la'⟩ ?_ ?_⟩
      · rintro i σ G2 hi ⟨a, o4, rfl, k2, hh2, la2⟩;refine ⟨_, rfl, rp, _, _, _, rfl, rfl, SqL.of k2.top, zQ, .inl ⟨rfl, _, SqL.of k2.h0.1⟩, _, rfl, hp, _, rfl, .inl (SqL.of hh2), (m.toNat : Int), congrArg (fun z : Nat => [V.int ((z : Nat) : Int)]) hhl, by omega, by omega, ?_⟩;refine kE (lo := 0) (n := (m.toNat : Int).toNat) (fun j ys H' => H' = G2 ∧ ∃ zs : List Int, ys = zs.map V.int ∧ zs.length = j) ⟨rfl, [], rfl, rfl⟩ ?_ ?_ ?_
        · rintro j ys G' hj ⟨rfl, zs, rfl, lz⟩;exact zH (by rw [List.length_map]; omega)
        · rintro j ys G' hj ⟨rfl, zs, rfl, lz⟩;refine ⟨_, rfl, _, rfl, _, _, rfl, rfl, _, _, rfl, rfl, (by show (0 : Int) < 4; decide), _, _, rfl, rfl, rfl, ints_snoc lz⟩
        rintro ys G' ⟨rfl, zs, rfl, lz⟩ tp htp;have nf := k2.fresh htp;refine zf (upd _ tp _) rfl htp fun G3 e3 y3 => ?_
        have k3 := k2.new e3;refine ⟨r0, _, _, rfl, rfl, k3.h0.1, zH (by rw [List.length_map]; omega), ?_⟩;exact ⟨_, _, rfl, k3.push0 y3 nf (by rw [lz]; rfl), by rw [zt nh0]; exact e3 _ _ hh2, by rw [List.length_append, List.length_singleton]; omega⟩
      · rintro σ G2 ⟨a, o4, rfl, k2, hh2, la2⟩;exact ⟨a, o4, rfl, k2, hh2, by omega⟩
    · exact ⟨a, o4, rfl, k1, e1 _ _ hh0, by omega⟩
  rintro σ G1 ⟨a, o4, rfl, k1, hh1, la1⟩;refine ⟨fun σ G' => ∃ (s0 s1 s2 : Addr) (a b c : List (Addr × List Int)), σ = [some (.ref cp), some (.int more), some (.ref rp), some (.ref hp), o4, o5, o6, o7, o8, o9, none] ∧ zF H G' ∧ G' rp = some (.lst [.ref s0, .ref s1, .ref s2]) ∧ G' hp = some (.lst ((zZ.take m.toNat).map V.str)) ∧ RowsAt G' s0 a ∧ RowsAt G' s1 b ∧ RowsAt G' s2 c ∧
    (∀ r ∈ a, r.2.length = m.toNat) ∧ (∀ r ∈ b, r.2.length = 2) ∧ (∀ r ∈ c, r.2.length = 1) ∧ a.length ≤ 60 ∧ b.length ≤ 10 ∧ c.length ≤ 10, ?_, ?_⟩
  · have asIs : ∃ (s0 s1 s2 : Addr) (a b c : List (Addr × List Int)), ([some (.ref cp), some (.int more), some (.ref rp), some (.ref hp), o4, o5, o6, o7, o8, o9, none] : List (Option V)) = [some (.ref cp), some (.int more), some (.ref rp), some (.ref hp), o4, o5, o6, o7, o8, o9, none] ∧ zF H G1 ∧ G1 rp = some (.lst [.ref s0, .ref s1, .ref s2]) ∧ G1 hp = some (.lst ((zZ.take m.toNat).map V.str)) ∧ RowsAt G1 s0 a ∧ RowsAt G1 s1 b ∧ RowsAt G1 s2 c ∧
      (∀ r ∈ a, r.2.length = m.toNat) ∧ (∀ r ∈ b, r.2.length = 2) ∧ (∀ r ∈ c, r.2.length = 1) ∧ a.length ≤ 60 ∧ b.length ≤ 10 ∧ c.length ≤ 10 :=
      ⟨r0, r1, r2, a, b, c, rfl, k1.same, k1.top, hh1, k1.h0, k1.h1, k1.h2, k1.w0, k1.w1, k1.w2, la1, by omega, by omega⟩
    refine z5N (z5D asIs) (fun els => ?_);refine ⟨_, rfl, cp, _, rfl, .inl (k1.same.seq hS), _, _, rfl, rfl, _, rfl, ?_⟩;refine yM (fun hb => ?_) (fun hb => els);have hb' := of_decide_eq_true hb;rw [hln] at hb';have hpos : 0 < ns.length := by omega
    have at0 : atI (ns.map V.int) 0 = some (.int (ns.getD 0 0)) := zW (j := 0) (int_at hpos);have atl : atI (ns.map V.int) (-1) = some (.int (ns.getD (ns.length - 1) 0)) := z9l hpos;refine ⟨_, rfl, cp, _, _, _, rfl, rfl, k1.same.seq hS, at0, _, _, rfl, rfl, (by show (0 : Int) < 9; decide), rfl, _, rfl, ?_⟩;refine yM (fun hc => ?_) (fun hc => els);refine ⟨z0, fun ep hep => ?_⟩;refine zf (upd _ ep _) rfl hep fun G2 e2 y2 => ?_
    generalize ns.getD (ns.length - 1) 0 = lst at atl;refine ⟨_, rfl, _, rfl, _, rfl, cp, _, _, _, rfl, rfl, (k1.same.trans e2).seq hS, atl, _, _, rfl, rfl, (by show (0 : Int) < 3; decide), ?_⟩;have k2 := k1.new e2;have nep : ep ≠ rp := (zr k1.top hep).symm;have frp : H rp = none := s3.free hrp;have h3' : lst % 3 = 0 ∨ lst % 3 = 1 ∨ lst % 3 = 2 := by omega
    have kp : ∀ {q : Addr} {rs : List (Addr × List Int)} {o : HO}, RowsAt G2 q rs → q ≠ rp → RowsAt (upd G2 rp o) q rs := fun {q rs o} h n => h.kp z1b n fun r m z => by
      have h1 := (h.2 r m).2;rw [z, k2.top] at h1;have h2 := congrArg (fun x => match x with | some (HO.lst xs) => xs | _ => []) h1;have h3 : [V.ref r0, V.ref r1, V.ref r2] = r.2.map V.int := h2;cases hr2 : r.2 with
      | nil => rw [hr2] at h3; cases h3
      | cons x xs => rw [hr2] at h3; cases h3
    rcases h3' with h3' | h3' | h3'
    · refine ⟨rp, _, _, 0, rfl, rfl, k2.top, by rw [h3']; rfl, ?_⟩;exact ⟨ep, r1, r2, [], b, c, rfl, (k2.same).put frp, zm, by rw [zt nhp]; exact e2 _ _ hh1, kp (yi y2) nep, kp k2.h1 k2.np1.symm, kp k2.h2 k2.np2.symm, fun _ z => (by cases z), k2.w1, k2.w2, Nat.zero_le _, by omega, by omega⟩
    · refine ⟨rp, _, _, 1, rfl, rfl, k2.top, by rw [h3']; rfl, ?_⟩;exact ⟨r0, ep, r2, a, [], c, rfl, (k2.same).put frp, zm, by rw [zt nhp]; exact e2 _ _ hh1, kp k2.h0 k2.np0.symm, kp (yi y2) nep, kp k2.h2 k2.np2.symm, k2.w0, fun _ z => (by cases z), k2.w2, la1, Nat.zero_le _, by omega⟩
    · refine ⟨rp, _, _, 2, rfl, rfl, k2.top, by rw [h3']; rfl, ?_⟩;exact ⟨r0, r1, ep, a, b, [], rfl, (k2.same).put frp, zm, by rw [zt nhp]; exact e2 _ _ hh1, kp k2.h0 k2.np0.symm, kp k2.h1 k2.np1.symm, kp (yi y2) nep, k2.w0, k2.w1, fun _ z => (by cases z), la1, by omega, Nat.zero_le _⟩
  rintro σ G2 ⟨s0, s1, s2, a, b, c, rfl, sm2, top2, hh2, j0, j1, j2, w0, w1, w2, c0, c1, c2⟩;refine ⟨_, rfl, _, rfl, rp, _, _, _, rfl, rfl, SqL.of top2, zQ, zq (by show 3 ≤ _; decide), fun t0 ht0 => ?_⟩;refine zf (upd _ t0 _) rfl ht0 fun G3 e3 y3 => ?_
  refine ⟨zq (by show 2 ≤ _; decide), fun wl hwl => ?_⟩;refine zf (upd _ wl _) rfl hwl fun G4 e4 y4 => ?_
  refine ⟨_, rfl, rp, _, _, _, rfl, rfl, SqL.of (e4 _ _ (e3 _ _ top2)), jd, zq (by show 3 ≤ _; decide), fun t1 ht1 => ?_⟩;refine zf (upd _ t1 _) rfl ht1 fun G5 e5 y5 => ?_
  refine ⟨zq (by show 2 ≤ _; decide), fun mp hmp => ?_⟩;refine zf (upd _ mp _) rfl hmp fun G6 e6 y6 => ?_
  have e26 := e3.trans (e4.trans (e5.trans e6));refine ⟨3, rfl, by decide, by decide, ?_⟩;refine kE (lo := 0) (n := (3 : Int).toNat) (fun i ys H' => zF G6 H' ∧ ∃ qs : List (Addr × List Int), ys = refs qs ∧ qs.length = i ∧ (∀ r ∈ qs, H' r.1 = some (.lst (r.2.map V.int)) ∧ r.2.length = m.toNat)) ⟨zF.refl _, [], rfl, rfl, fun _ z => (by cases z)⟩ ?_ ?_ ?_
  · rintro i ys G' hi ⟨sm', qs, rfl, lq, hq⟩;exact zH (by rw [List.length_map, lq]; exact Nat.le_trans hi (by decide))
  · rintro i ys G' hi ⟨sm', qs, rfl, lq, hq⟩;have hh6 := sm' _ _ (e26 _ _ hh2);refine ⟨_, rfl, hp, _, rfl, .inl (SqL.of hh6), (m.toNat : Int), congrArg (fun z : Nat => [V.int ((z : Nat) : Int)]) hhl, by omega, by omega, ?_⟩;refine kE (lo := 0) (n := (m.toNat : Int).toNat) (fun j ys H' => H' = G' ∧ ∃ zs : List Int, ys = zs.map V.int ∧ zs.length = j) ⟨rfl, [], rfl, rfl⟩ ?_ ?_ ?_
    · rintro j ys G' hj ⟨rfl, zs, rfl, lz⟩;exact zH (by rw [List.length_map]; omega)
    · rintro j ys G' hj ⟨rfl, zs, rfl, lz⟩;refine ⟨_, rfl, _, _, rfl, rfl, .inl ⟨by decide, by decide⟩, _, rfl, _, _, rfl, rfl, _, _, rfl, rfl, (by show (0 : Int) < 5; decide), _, _, rfl, rfl, rfl, ints_snoc lz⟩
    · rintro ys G7 ⟨rfl, zs, rfl, lz⟩ lp hlp;have n8 := zG hlp (.lst (zs.map V.int));refine ⟨sm'.trans n8, qs ++ [(lp, zs)], by simp [refs], by rw [List.length_append, lq]; rfl, fun r mm => ?_⟩;rcases List.mem_append.mp mm with mm | mm
      · exact ⟨n8 _ _ (hq r mm).1, (hq r mm).2⟩
      · rw [List.mem_singleton.mp mm];exact ⟨zm, by rw [lz]; rfl⟩
  rintro ys G7 ⟨s67, qs, rfl, lq, hq⟩ op hop;refine zf (upd _ op _) rfl hop fun G8 e8 y8 => ?_
  have e68 := s67.trans e8;have e28 := e26.trans e68;have ro := jX hop e8 y8 fun r mm => (hq r mm).1
  refine ⟨_, rfl, zq (by show 1 ≤ _; decide), fun xl hxl => ?_⟩;refine zf (upd _ xl _) rfl hxl fun G9 e9 y9 => ?_
  refine ⟨_, rfl, rp, _, _, _, rfl, rfl, SqL.of (e9 _ _ (e28 _ _ top2)), jx, zq (by show 3 ≤ _; decide), fun t2 ht2 => ?_⟩;refine zf (upd _ t2 _) rfl ht2 fun G10 e10 y10 => ?_
  refine ⟨_, rfl, hp, _, rfl, .inl (SqL.of (e10 _ _ (e9 _ _ (e28 _ _ hh2)))), fun cl hcl => ?_⟩;refine zf (upd _ cl _) rfl hcl fun G11 e11 y11 => ?_
  refine ⟨_, rfl, zq (by show 3 ≤ _; decide), fun t3 ht3 => ?_⟩;refine zf (upd _ t3 _) rfl ht3 fun G12 e12 y12 => ?_
  refine ⟨zq (by show 2 ≤ _; decide), fun bp hbp => ?_⟩;refine zf (upd _ bp _) rfl hbp fun G13 e13 y13 => ?_
  have e813 := e9.trans (e10.trans (e11.trans (e12.trans e13)));refine ⟨mp, bp, _, _, rfl, rfl, e813 _ _ (e68 _ _ y6), y13, zq (by show 4 ≤ _; decide), fun rpp hrpp => ?_⟩;refine zf (upd _ rpp _) rfl hrpp fun G14 e14 y14 => ?_
  have e814 := e813.trans e14;have e214 := e28.trans e814;have tok := tabs_ok (m := m.toNat) (r0 := a.map (·.2)) (r1 := b.map (·.2)) (r2 := c.map (·.2)) (r3 := qs.map (·.2)) (by omega) (by omega) (fun r mm => by obtain ⟨x, hx, rfl⟩ := List.mem_map.mp mm; rw [hl12]; exact w0 x hx) (fun r mm => by obtain ⟨x, hx, rfl⟩ := List.mem_map.mp mm; exact w1 x hx)
    (fun r mm => by obtain ⟨x, hx, rfl⟩ := List.mem_map.mp mm; exact w2 x hx) (fun r mm => by obtain ⟨x, hx, rfl⟩ := List.mem_map.mp mm; rw [hl12]; exact (hq x hx).2) (by rw [List.length_map]; exact c0) (by rw [List.length_map]; exact c1) (by rw [List.length_map]; exact c2) (by rw [List.length_map, lq]; rfl)
  refine fin rpp _ _ _ (sm2.trans e214) tok ⟨.ref t0, .ref t1, .ref t2, .ref t3, y14, ⟨t0, hp, s0, a, rfl, ?_, ?_, j0.same e214, ?_⟩, ⟨t1, wl, s1, b, rfl, ?_, ?_, j1.same e214, ?_⟩, ⟨t2, xl, s2, c, rfl, ?_, ?_, j2.same e214, ?_⟩, ⟨t3, cl, op, qs, rfl, ?_, ?_, ro.same e814, ?_⟩⟩
  · exact (e4.trans (e5.trans (e6.trans (e68.trans e814)))) _ _ y3
  · rw [show z0I (zZ.take m.toNat) "t" = zZ.take m.toNat by unfold z0I; rw [if_neg (by decide +kernel), if_neg (by decide +kernel)]];exact e214 _ _ hh2
  · unfold z23; rw [if_pos rfl]
  · exact (e6.trans (e68.trans e814)) _ _ y5
  · rw [show z0I (zZ.take m.toNat) "tuvtuvtuvw" = z1e by unfold z0I; rw [if_pos rfl]];exact (e5.trans (e6.trans (e68.trans e814))) _ _ y4
  · unfold z23; rw [if_neg (by decide +kernel), if_pos rfl]
  · exact (e11.trans (e12.trans (e13.trans e14))) _ _ y10
  · rw [show z0I (zZ.take m.toNat) "tuvtuvtuvx" = (["e"] : List Str) by unfold z0I; rw [if_neg (by decide +kernel), if_pos rfl]];exact (e10.trans (e11.trans (e12.trans (e13.trans e14)))) _ _ y9
  · unfold z23; rw [if_neg (by decide +kernel), if_neg (by decide +kernel), if_pos rfl]
  · exact (e13.trans e14) _ _ y12
  · rw [show z0I (zZ.take m.toNat) "tuvz" = zZ.take m.toNat by unfold z0I; rw [if_neg (by decide +kernel), if_neg (by decide +kernel)]];exact (e12.trans (e13.trans e14)) _ _ y11
  · unfold z23; rw [if_neg (by decide +kernel), if_neg (by decide +kernel), if_neg (by decide +kernel)]

noncomputable def z2A (K : PySem.W.Frag) : Sp := fun vs H Q _ => ∃ (a b : Addr) (ss : List Str), vs = [.ref a, .ref b] ∧ H a = some (.lst (ss.map V.str)) ∧ SqL K H b (ss.map V.str) ∧ ss.length ≤ 100000 ∧ Q (.bl true) H
theorem z17 : FnScope ["_law_found", "_law_due", "_law_k"] ["_law_found", "_law_due"] (zl kX) := ⟨rfl, rfl, rfl, by decide +kernel, rfl, by decide +kernel, by decide +kernel⟩
theorem z3s (F : Fun K "_law_texts" "_law_texts" kX f fd) (T : Txt K mg) : FnOk P w K mg base CX0 1 f fd ["_law_found", "_law_due"] (z2A K) := by
  refine F.ok z17 (fun vs H Q E h => ?_) (fun cdv A outer s H vs Q E hr h => ?_)
  · obtain ⟨a, b, ss, rfl, _⟩ := h
    rfl
  obtain ⟨a, b, ss, rfl, ha, hb, hz, q⟩ := h;refine ⟨_, (zd (zO (z0K (z04 (yl (zx ja rfl T.isinstance PyProof.Rows.boot_isinstance (zb (pv 0) (zb (yw (v := .ty "list") rfl T.list PyProof.Rows.boot_list rfl) ze))))) (zw z16 (zx zu rfl T.len PySem.boot_len (zb (pv 0) ze)) (zx zu rfl T.len PySem.boot_len (zb (pv 1) ze)) (zC _)))
      (zg (zB yP))
      zE)
    (zd (jH PassesOwn.never rfl (jW rfl T.range (zV (zx zu rfl T.len PySem.boot_len (zb (pv 1) ze)) ze)) (jf (i := 2) z17.nd rfl (Or.inl rfl))
      (zg (zO (z0K (z04 (yl (zx ja rfl T.isinstance PyProof.Rows.boot_isinstance (zk (zh zz (pv 0) (pv 2) (fun _ _ => rfl)) (zb (yw (v := .ty "str") rfl T.str PyProof.Rows.boot_str rfl) ze))))) (zw z16 (zh zz (pv 0) (pv 2) (fun _ _ => rfl)) (zh zz (pv 1) (pv 2) (fun _ _ => rfl)) (zC _)))
        (zg (zB yP))
        zE)))
    (zg (zB yP)))), ?_⟩
  have hl : (ss.map V.str).length = ss.length := List.length_map _;have hz2 : -(2 ^ 62) ≤ (((ss.map V.str).length : Nat) : Int) := by omega
  have hz3 : (((ss.map V.str).length : Nat) : Int) < 2 ^ 62 := by rw [hl]; omega
  refine ⟨_, rfl, _, _, _, _, rfl, TyOf.lst ha, ye, _, rfl, _, ⟨_, rfl, a, _, rfl, .inl (SqL.of ha), _, rfl, b, _, rfl, .inl hb, rfl, _, rfl, rfl, rfl⟩, ?_⟩;refine ifF (by simp) ?_;refine ⟨_, rfl, b, _, rfl, .inl hb, _, rfl, hz2, hz3, ki (lo := 0) (n := (ss.map V.str).length) (fun i σ H2 => ∃ v : Option V, σ = [some (.ref a), some (.ref b), v] ∧ H2 = H) ⟨none, rfl, rfl⟩ ?_ ?_⟩
  · rintro i σ H2 hi ⟨v, rfl, rfl⟩;have hi' : i < ss.length := by rw [hl] at hi; exact hi
    have hg : (ss.map V.str)[i]? = some (.str ss[i]) := by
      rw [List.getElem?_map, List.getElem?_eq_getElem hi']
      rfl
    have hat : atI (ss.map V.str) (0 + (i : Int)) = some (.str ss[i]) := by
      rw [Int.zero_add];exact zW hg
    refine ⟨_, rfl, _, rfl, a, _, _, _, rfl, rfl, SqL.of ha, hat, _, _, _, _, rfl, TyOf.str _, ye, _, rfl, _, ⟨_, rfl, _, rfl, a, _, _, _, rfl, rfl, SqL.of ha, hat, _, rfl, _, rfl, b, _, _, _, rfl, rfl, hb, hat, rfl, _, rfl, rfl, rfl⟩, ?_⟩;refine ifF (by simp) ?_;exact ⟨_, rfl, rfl⟩
  · rintro σ H2 ⟨v, rfl, rfl⟩;exact q
noncomputable def z4D : Sp := fun vs H Q _ => ∃ i : Int, vs = [.int i] ∧ Q (.bl true) H
theorem z3n : FnScope ["_law_found"] ["_law_found"] (zl kT) := ⟨rfl, rfl, rfl, by decide +kernel, rfl, by decide +kernel, by decide +kernel⟩
theorem z3j (F : Fun K "_law_whole" "_law_whole" kT f fd) (T : Txt K mg) : FnOk P w K mg base CX0 1 f fd ["_law_found"] z4D := by
  refine F.ok z3n (fun vs H Q E h => ?_) (fun cdv A outer s H vs Q E hr h => ?_)
  · obtain ⟨i, rfl, _⟩ := h
    rfl
  obtain ⟨i, rfl, q⟩ := h;refine ⟨_, (zg (zB (z8X (zx ja rfl T.isinstance PyProof.Rows.boot_isinstance (zb (pv 0) (zb (yw (v := .ty "int") rfl T.int PyProof.Rows.boot_int rfl) ze))) (z64 (zx ja rfl T.isinstance PyProof.Rows.boot_isinstance (zb (pv 0) (zb (yw (v := .ty "bool") rfl T.bool PyProof.Rows.boot_bool rfl) ze))))))), ?_⟩;exact ⟨_, rfl, _, _, _, _, rfl, TyOf.int i, ye, _, rfl, _, ⟨_, rfl, _, _, _, _, rfl, TyOf.int i, z4o, _, rfl, rfl, rfl⟩, q⟩
noncomputable def z1M (K : PySem.W.Frag) : Sp := fun vs H Q _ => ∃ (a b : Addr) (ns : List Int), vs = [.ref a, .ref b] ∧ H a = some (.lst (ns.map V.int)) ∧ SqL K H b (ns.map V.int) ∧ ns.length ≤ 100000 ∧ Q (.bl true) H
theorem z0z : FnScope ["_law_found", "_law_due", "_law_k"] ["_law_found", "_law_due"] (zl yX) := ⟨rfl, rfl, rfl, by decide +kernel, rfl, by decide +kernel, by decide +kernel⟩
theorem z2w (F : Fun K "_law_numbers" "_law_numbers" yX f fd) (T : Txt K mg) (C_law_whole : Kn P w K mg base 1 "_law_whole" ["_law_found"] z4D) : FnOk P w K mg base CX0 2 f fd ["_law_found", "_law_due"] (z1M K) := by
  refine F.ok z0z (fun vs H Q E h => ?_) (fun cdv A outer s H vs Q E hr h => ?_)
  · obtain ⟨a, b, ns, rfl, _⟩ := h
    rfl
  obtain ⟨a, b, ns, rfl, ha, hb, hz, q⟩ := h;refine ⟨_, (zd (zO (z0K (z04 (yl (zx ja rfl T.isinstance PyProof.Rows.boot_isinstance (zb (pv 0) (zb (yw (v := .ty "list") rfl T.list PyProof.Rows.boot_list rfl) ze))))) (zw z16 (zx zu rfl T.len PySem.boot_len (zb (pv 0) ze)) (zx zu rfl T.len PySem.boot_len (zb (pv 1) ze)) (zC _)))
      (zg (zB yP))
      zE)
    (zd (jH PassesOwn.never rfl (jW rfl T.range (zV (zx zu rfl T.len PySem.boot_len (zb (pv 1) ze)) ze)) (jf (i := 2) z0z.nd rfl (Or.inl rfl))
      (zg (zO (z0K (z04 (yl (zy C_law_whole hr.m rfl (zk (zh zz (pv 0) (pv 2) (fun _ _ => rfl)) ze)))) (zw z16 (zh zz (pv 0) (pv 2) (fun _ _ => rfl)) (zh zz (pv 1) (pv 2) (fun _ _ => rfl)) (zC _)))
        (zg (zB yP))
        zE)))
    (zg (zB yP)))), ?_⟩
  have hl : (ns.map V.int).length = ns.length := List.length_map _;have hz2 : -(2 ^ 62) ≤ (((ns.map V.int).length : Nat) : Int) := by omega
  have hz3 : (((ns.map V.int).length : Nat) : Int) < 2 ^ 62 := by rw [hl]; omega
  refine ⟨_, rfl, _, _, _, _, rfl, TyOf.lst ha, ye, _, rfl, _, ⟨_, rfl, a, _, rfl, .inl (SqL.of ha), _, rfl, b, _, rfl, .inl hb, rfl, _, rfl, rfl, rfl⟩, ?_⟩;refine ifF (by simp) ?_;refine ⟨_, rfl, b, _, rfl, .inl hb, _, rfl, hz2, hz3, ki (lo := 0) (n := (ns.map V.int).length) (fun i σ H2 => ∃ v : Option V, σ = [some (.ref a), some (.ref b), v] ∧ H2 = H) ⟨none, rfl, rfl⟩ ?_ ?_⟩
  · rintro i σ H2 hi ⟨v, rfl, rfl⟩;have hi' : i < ns.length := by rw [hl] at hi; exact hi
    have hat : atI (ns.map V.int) (0 + (i : Int)) = some (.int ns[i]) := by
      rw [Int.zero_add];exact zW (by rw [List.getElem?_map, List.getElem?_eq_getElem hi']; rfl)
    refine ⟨_, rfl, _, rfl, a, _, _, _, rfl, rfl, SqL.of ha, hat, _, rfl, _, rfl, _, ⟨_, rfl, _, rfl, a, _, _, _, rfl, rfl, SqL.of ha, hat, _, rfl, _, rfl, b, _, _, _, rfl, rfl, hb, hat, rfl, _, rfl, rfl, rfl⟩, ?_⟩;refine ifF (by simp) ?_;exact ⟨_, rfl, rfl⟩
  · rintro σ H2 ⟨v, rfl, rfl⟩;exact q
noncomputable def z2y (K : PySem.W.Frag) : Sp := fun vs H Q _ => ∃ (a b : Addr) (rs qs : List (Addr × List Int)), vs = [.ref a, .ref b] ∧ RowsAt H a rs ∧ RowsAt H b qs ∧ rs.map (·.2) = qs.map (·.2) ∧ rs.length ≤ 100000 ∧ (∀ r ∈ rs, r.2.length ≤ 100000) ∧ Q (.bl true) H
theorem z18 : FnScope ["_law_found", "_law_due", "_law_k"] ["_law_found", "_law_due"] (zl kU) := ⟨rfl, rfl, rfl, by decide +kernel, rfl, by decide +kernel, by decide +kernel⟩
theorem z3r (F : Fun K "_law_alike" "_law_alike" kU f fd) (T : Txt K mg) (C_law_numbers : Kn P w K mg base 2 "_law_numbers" ["_law_found", "_law_due"] (z1M K)) : FnOk P w K mg base CX0 3 f fd ["_law_found", "_law_due"] (z2y K) := by
  refine F.ok z18 (fun vs H Q E h => ?_) (fun cdv A outer s H vs Q E hr h => ?_)
  · obtain ⟨a, b, rs, qs, rfl, _⟩ := h
    rfl
  obtain ⟨a, b, rs, qs, rfl, ha, hb, he, hz, hzz, q⟩ := h;refine ⟨_, (zd (zO (z0K (z04 (yl (zx ja rfl T.isinstance PyProof.Rows.boot_isinstance (zb (pv 0) (zb (yw (v := .ty "list") rfl T.list PyProof.Rows.boot_list rfl) ze))))) (zw z16 (zx zu rfl T.len PySem.boot_len (zb (pv 0) ze)) (zx zu rfl T.len PySem.boot_len (zb (pv 1) ze)) (zC _)))
      (zg (zB yP))
      zE)
    (zd (jH PassesOwn.never rfl (jW rfl T.range (zV (zx zu rfl T.len PySem.boot_len (zb (pv 1) ze)) ze)) (jf (i := 2) z18.nd rfl (Or.inl rfl))
      (zg (zO (z04 (yl (zy C_law_numbers hr.m rfl (zk (zh zz (pv 0) (pv 2) (fun _ _ => rfl)) (zk (zh zz (pv 1) (pv 2) (fun _ _ => rfl)) ze)))))
        (zg (zB yP))
        zE)))
    (zg (zB yP)))), ?_⟩
  have hlr : (refs rs).length = rs.length := List.length_map _;have hlq : (refs qs).length = qs.length := List.length_map _;have hl : rs.length = qs.length := by
    have := congrArg List.length he
    rwa [List.length_map, List.length_map] at this
  refine ⟨_, rfl, _, _, _, _, rfl, TyOf.lst ha.1, ye, _, rfl, _, ⟨_, rfl, a, _, rfl, .inl (SqL.of ha.1), _, rfl, b, _, rfl, .inl (SqL.of hb.1), rfl, _, rfl, rfl, rfl⟩, ?_⟩;refine ifF (by rw [hlr, hlq, hl]; simp) ?_;refine ⟨_, rfl, b, _, rfl, .inl (SqL.of hb.1), _, rfl, by omega, by rw [hlq]; omega, ki (lo := 0) (n := (refs qs).length) (fun i σ H2 => ∃ v : Option V, σ = [some (.ref a), some (.ref b), v] ∧ H2 = H) ⟨none, rfl, rfl⟩ ?_ ?_⟩
  · rintro i σ H2 hi ⟨v, rfl, rfl⟩;rw [hlq] at hi;have hir : i < rs.length := by omega
    have e2 : rs[i].2 = qs[i].2 := by
      have h1 : (rs.map (·.2))[i]? = some rs[i].2 := by rw [List.getElem?_map, List.getElem?_eq_getElem hir]; rfl
      rw [he, List.getElem?_map, List.getElem?_eq_getElem hi] at h1;exact (Option.some.inj h1).symm
    refine ⟨_, rfl, _, rfl, a, _, _, _, rfl, rfl, SqL.of ha.1, z4w hir, _, rfl, _, rfl, b, _, _, _, rfl, rfl, SqL.of hb.1, z4w hi, rs[i].1, qs[i].1, rs[i].2, rfl, (ha.2 _ (List.getElem_mem hir)).2, SqL.of (by rw [e2]; exact (hb.2 _ (List.getElem_mem hi)).2), hzz _ (List.getElem_mem hir), _, rfl, ?_⟩;refine ifF (by rfl) ?_;exact ⟨_, rfl, rfl⟩
  · rintro σ H2 ⟨v, rfl, rfl⟩;exact q
structure TxtP (K : PySem.W.Frag) (mg : Str → Option Value) : Prop where
  cmp : ∃ a, mg "COMPARISONS" = some (.ref a) ∧ ∀ H, SqT K H a [.str "less", .str "same"]
  set : mg "set" = none
  two : ∃ a, mg "TWOFOLD" = some (.ref a) ∧ ∀ H, SqT K H a [.str "pair", .str "join", .str "both"]
noncomputable def z7J (K : PySem.W.Frag) : Sp := fun vs H Q _ => ∃ (sd : Side) (hp rp : Addr) (hs : List Str) (rs : List Int), vs = [sd.v, .ref hp, .ref rp] ∧ SqL K H hp (hs.map V.str) ∧ SqL K H rp (rs.map V.int) ∧ hs.length = rs.length ∧ sd.ok hs ∧ Q (.int (num hs rs sd)) H
theorem z4e : FnScope ["side", "heads", "row"] ["side", "heads", "row"] (zl z08) := ⟨rfl, rfl, rfl, by decide +kernel, rfl, by decide +kernel, by decide +kernel⟩
theorem z4k (F : Fun K "number_of" "number_of" z08 f fd) (T : Txt K mg) : FnOk P w K mg base CX0 1 f fd ["side", "heads", "row"] (z7J K) := by
  refine F.ok z4e (fun vs H Q E h => ?_) (fun cdv A outer s H vs Q E hr h => ?_)
  · obtain ⟨sd, hp, rp, hs, rs, rfl, _⟩ := h
    rfl
  obtain ⟨sd, hp, rp, hs, rs, rfl, h1, h2, hl, ok, q⟩ := h;refine ⟨_, (zd (zO (yl (zx ja rfl T.isinstance PyProof.Rows.boot_isinstance (zb (pv 0) (zb (yw (v := .ty "str") rfl T.str PyProof.Rows.boot_str rfl) ze))))
      (zg (zB (zh zz (pv 2) (jF PySem.F.plainAttrs_list PySem.F.slot_list_index PySem.F.type_list_index jY (pv 1) (zb (pv 0) ze)) (fun _ _ => rfl))))
      zE)
    (zg (zB (pv 0)))), ?_⟩
  cases sd with
  | nm x =>
    refine ⟨_, rfl, _, _, _, _, rfl, TyOf.str x, ye, _, rfl, ?_⟩;refine z5V ?_;have ok' : x ∈ hs := ok;have hj : hs.idxOf x < rs.length := by
      rw [← hl];exact List.idxOf_lt_length_iff.mpr ok'
    have hg : (rs.map V.int)[hs.idxOf x]? = some (V.int (rs.getD (hs.idxOf x) 0)) := by
      rw [List.getElem?_map, List.getElem?_eq_getElem hj, List.getD_eq_getElem?_getD, List.getElem?_eq_getElem hj]
      rfl
    exact ⟨_, rfl, _, rfl, .inl ⟨rfl, _, h1⟩, _, rfl, hp, _, _, hs.idxOf x, rfl, rfl, h1, rfl, zU hs, (j9 ok').1, (j9 ok').2, rp, _, _, _, rfl, rfl, h2, zW hg, q⟩
  | nu i =>
    refine ⟨_, rfl, _, _, _, _, rfl, TyOf.int i, z0C, _, rfl, ?_⟩;refine z5D ?_;exact ⟨_, rfl, q⟩
noncomputable def z7G (K : PySem.W.Frag) : Sp := fun vs H Q _ => ∃ (c : Cond) (vc : V) (hp rp : Addr) (hs : List Str) (rs : List Int), vs = [vc, .ref hp, .ref rp] ∧ zN H c vc ∧ c.leaf = true ∧ c.ok hs ∧ SqL K H hp (hs.map V.str) ∧ SqL K H rp (rs.map V.int) ∧ hs.length = rs.length ∧ Q (.bl (ev hs rs c)) H
theorem z0J : FnScope ["comparison", "heads", "row", "first", "second"] ["comparison", "heads", "row"] (zl z0r) := ⟨rfl, rfl, rfl, by decide +kernel, rfl, by decide +kernel, by decide +kernel⟩
theorem z5i (F : Fun K "compared" "compared" z0r f fd) (T : Txt K mg) (Cnumber_of : Kn P w K mg base 1 "number_of" ["side", "heads", "row"] (z7J K)) : FnOk P w K mg base CX0 2 f fd ["comparison", "heads", "row"] (z7G K) := by
  refine F.ok z0J (fun vs H Q E h => ?_) (fun cdv A outer s H vs Q E hr h => ?_)
  · obtain ⟨c, vc, hp, rp, hs, rs, rfl, _⟩ := h
    rfl
  obtain ⟨c, vc, hp, rp, hs, rs, rfl, hc, lf, ok, h1, h2, hl, q⟩ := h;refine ⟨_, (zd (zo (i := 3) z0J.nd rfl (Or.inl rfl) (zy Cnumber_of hr.m rfl (zk (zh zj (pv 0) za (fun _ _ => rfl)) (zb (pv 1) (zb (pv 2) ze)))))
    (zd (zo (i := 4) z0J.nd rfl (Or.inl rfl) (zy Cnumber_of hr.m rfl (zk (zh zj (pv 0) za (fun _ _ => rfl)) (zb (pv 1) (zb (pv 2) ze)))))
    (zd (zO (zw zT (zh zj (pv 0) za (fun _ _ => rfl)) zn (zC _))
      (zg (zB (kP z40 (pv 3) (pv 4) (zC _))))
      zE)
    (zg (zB (kP zT (pv 3) (pv 4) (zC _))))))), ?_⟩
  cases c with
  | less a b =>
    obtain ⟨p, rfl, h⟩ := hc;obtain ⟨ka, kb⟩ := ok;refine ⟨_, rfl, p, _, _, _, rfl, rfl, SqT.of h, jd, _, rfl, _, rfl, a, hp, rp, hs, rs, rfl, h1, h2, hl, ka, ?_⟩;refine ⟨_, rfl, p, _, _, _, rfl, rfl, SqT.of h, jx, _, rfl, _, rfl, b, hp, rp, hs, rs, rfl, h1, h2, hl, kb, ?_⟩;refine ⟨_, rfl, p, _, _, _, rfl, rfl, SqT.of h, zQ, rfl, _, rfl, ?_⟩;refine ifT (by decide +kernel) ?_;exact ⟨_, rfl, _, rfl, _, _, rfl, rfl, q⟩
  | same a b =>
    obtain ⟨p, rfl, h⟩ := hc;obtain ⟨ka, kb⟩ := ok;refine ⟨_, rfl, p, _, _, _, rfl, rfl, SqT.of h, jd, _, rfl, _, rfl, a, hp, rp, hs, rs, rfl, h1, h2, hl, ka, ?_⟩;refine ⟨_, rfl, p, _, _, _, rfl, rfl, SqT.of h, jx, _, rfl, _, rfl, b, hp, rp, hs, rs, rfl, h1, h2, hl, kb, ?_⟩;refine ⟨_, rfl, p, _, _, _, rfl, rfl, SqT.of h, zQ, rfl, _, rfl, ?_⟩;refine ifF (by decide +kernel) ?_;refine ⟨_, rfl, _, rfl, rfl, ?_⟩;exact qbl z1C q
  | no c => cases lf
  | an c d => cases lf
  | or c d => cases lf
noncomputable def z4c (K : PySem.W.Frag) : Sp := fun vs H Q _ => ∃ (c : Cond) (vc : V) (hp rp : Addr) (hs : List Str) (rs : List Int), vs = [vc, .ref hp, .ref rp] ∧ zN H c vc ∧ c.ok hs ∧ c.size ≤ 100000 ∧ SqL K H hp (hs.map V.str) ∧ SqL K H rp (rs.map V.int) ∧ hs.length = rs.length ∧
  ∀ H', zF H H' → Q (.bl (ev hs rs c)) H'
theorem yF : FnScope ["condition", "heads", "row", "above", "part", "answer", "over"] ["condition", "heads", "row"] (zl z2x) := ⟨rfl, rfl, rfl, by decide +kernel, rfl, by decide +kernel, by decide +kernel⟩
theorem z8s (F : Fun K "holds" "holds" z2x f fd) (T : Txt K mg) (R : TxtP K mg) (Ccompared : Kn P w K mg base 2 "compared" ["comparison", "heads", "row"] (z7G K)) : FnOk P w K mg base CX0 3 f fd ["condition", "heads", "row"] (z4c K) := by
  refine F.ok yF (fun vs H Q E h => ?_) (fun cdv A outer s H vs Q E hr h => ?_)
  · obtain ⟨c, vc, hp, rp, hs, rs, rfl, _⟩ := h
    rfl
  obtain ⟨c, vc, hp, rp, hs, rs, rfl, hc, ok, hz, h1, h2, hl, q⟩ := h;obtain ⟨cA, hcA, sA⟩ := R.cmp;refine ⟨_, (zd (zo (i := 3) yF.nd rfl (Or.inl rfl) (zI ze))
    (zd (zo (i := 4) yF.nd rfl (Or.inl rfl) (pv 0))
    (zd (zo (i := 5) yF.nd rfl (Or.inl rfl) yP)
    (zd (z0M PassesOwn.never (zw z95 (pv 4) z67 (zC _))
      (zd (z0M PassesOwn.never (zw kR (zh zj (pv 4) za (fun _ _ => rfl)) (z6K (v := .ref cA) rfl hcA rfl) (by with_unfolding_all rfl))
        (zd (jc (jF PySem.F.plainAttrs_list PySem.F.slot_list_append PySem.F.type_list_append jz (pv 3) (zb (pv 4) ze)))
        (zg (zo (i := 4) yF.nd rfl (Or.inl rfl) (zh zj (pv 4) za (fun _ _ => rfl))))))
      (zd (zo (i := 5) yF.nd rfl (Or.inl rfl) (zy Ccompared hr.m rfl (zb (pv 4) (zb (pv 1) (zb (pv 2) ze)))))
      (zd (zo (i := 4) yF.nd rfl (Or.inl rfl) z67)
      (zg (z0M PassesOwn.never (z1u (z3g (pv 3) (fun _ => rfl)) (zw zac (pv 4) z67 (zC _)))
        (zd (zo (i := 6) yF.nd rfl (Or.inl rfl) (z4s PySem.F.plainAttrs_list PySem.F.slot_list_pop PySem.F.type_list_pop z4d (pv 3)))
        (zg (zO (zw zT (zh zj (pv 6) za (fun _ _ => rfl)) zn (zC _))
          (zg (zo (i := 5) yF.nd rfl (Or.inl rfl) (z64 (pv 5))))
          (zg (zO (zw zT (pv 5) (kP zT (zh zj (pv 6) za (fun _ _ => rfl)) zn (zC _)) (zC _))
            (zg (zo (i := 4) yF.nd rfl (Or.inl rfl) (zh zj (pv 6) za (fun _ _ => rfl))))
            zE)))))))))))
    (zg (zB (pv 5))))))), ?_⟩
  refine ⟨(by show 0 ≤ sizeLine; decide), fun l hn => ?_⟩;refine ⟨_, rfl, ?_⟩;have put : ∀ o, zF H (upd H l o) := fun o => zG hn o
  have cput : ∀ {d : Cond} {v : V} (o : HO), zN H d v → zN (upd H l o) d v := fun o h => h.mono (kB hn)
  refine z1p (fun m σ H' => ∃ (fs : List (V × Cond)) (pv : V) (ans : Bool) (ov : Option V), σ = [some vc, some (.ref hp), some (.ref rp), some (.ref l), some pv, some (.bl ans), ov] ∧ H' = upd H l (.lst (fs.map (·.1))) ∧
      (∀ g ∈ fs, zN H g.2 g.1 ∧ g.2.leaf = false ∧ g.2.ok hs) ∧ m ≤ c.size ∧
      ((∃ d, zN H d pv ∧ d.ok hs ∧ unw hs rs fs (ev hs rs d) = ev hs rs c ∧ m = d.size + wt fs) ∨ (pv = .non ∧ fs = [] ∧ ans = ev hs rs c ∧ m = 0))) c.size
    ⟨[], vc, false, none, rfl, rfl, fun _ z => (by cases z), Nat.le_refl _, .inl ⟨c, hc, ok, rfl, rfl⟩⟩ ?_
  rintro m σ H' ⟨fs, pv, ans, ov, rfl, rfl, hf, hm, hcase⟩;rcases hcase with ⟨d, hd, okd, ed, rfl⟩ | ⟨rfl, rfl, rfl, rfl⟩
  · -- the part is a condition
    obtain ⟨pp, ppx, rfl, hpp⟩ := hd.ref;refine ⟨_, rfl, rfl, _, rfl, ?_⟩;refine ifT (by rfl) ?_;refine ⟨_, fun σ' H' z => z, ?_⟩;refine z1p (fun m1 σ H' => ∃ (fs1 : List (V × Cond)) (pv : V) (d1 : Cond), σ = [some vc, some (.ref hp), some (.ref rp), some (.ref l), some pv, some (.bl ans), ov] ∧ H' = upd H l (.lst (fs1.map (·.1))) ∧
      (∀ g ∈ fs1, zN H g.2 g.1 ∧ g.2.leaf = false ∧ g.2.ok hs) ∧ zN H d1 pv ∧ d1.ok hs ∧ unw hs rs fs1 (ev hs rs d1) = ev hs rs c ∧ d1.size + wt fs1 = d.size + wt fs ∧ m1 = d1.size) d.size
      ⟨fs, _, d, rfl, rfl, hf, hd, okd, ed, rfl, rfl⟩ ?_
    rintro m1 σ H' ⟨fs1, pv1, d1, rfl, rfl, hf1, hd1, ok1, ed1, em1, rfl⟩;have hlen' : (fs1.map (·.1)).length < sizeLine := by
      rw [List.length_map];exact zH (by have := z7W fs1; omega)
    obtain ⟨p1, w1, xs1, rfl, hp1, iw⟩ := hd1.head;refine ⟨_, rfl, p1, _, _, _, rfl, rfl, SqT.of (kB hn _ _ hp1), zQ, cA, _, rfl, .inr (sA _), rfl, rfl, _, rfl, ?_⟩;cases lf : d1.leaf with
    | false =>
      refine ifT (by rw [iw, lf]; rfl) ?_;refine ⟨_, fun σ' H' z => z, ?_⟩;obtain ⟨y, r, d2, rfl, hd2, ok2, e2, a2⟩ := hd1.down hs rs hp1 lf ok1;refine ⟨_, rfl, .inl ⟨rfl, _, SqL.of zm⟩, _, rfl, l, _, _, rfl, rfl, zm, hlen', ?_⟩;refine ⟨_, rfl, p1, _, _, _, rfl, rfl, SqT.of (by rw [z0p]; exact kB hn _ _ hp1), jd, ?_⟩;have h3 : 1 ≤ wgt d1 := by cases d1 <;> simp only [wgt] <;> omega
      refine ⟨d2.size, by omega, fs1 ++ [(V.ref p1, d1)], y, d2, rfl, by rw [z0p, List.map_append]; rfl, ?_, hd2, ok2, by rw [z4R, a2]; exact ed1, by rw [z6l]; show d2.size + (wt fs1 + wgt d1) = _; omega, rfl⟩;intro g hg;rcases List.mem_append.mp hg with hg | hg
      · exact hf1 g hg
      · rw [List.mem_singleton.mp hg];exact ⟨hd1, lf, ok1⟩
    | true =>
      refine ifF (by rw [iw, lf]; rfl) ?_;refine ⟨_, rfl, _, rfl, _, rfl, d1, _, hp, rp, hs, rs, rfl, cput _ hd1, lf, ok1, (put _).seq h1, (put _).seq h2, hl, ?_⟩;have sp1 := d1.size_pos;refine z1p (fun m2 σ H' => ∃ (fs2 : List (V × Cond)) (pv : V) (ans2 : Bool) (ov2 : Option V), σ = [some vc, some (.ref hp), some (.ref rp), some (.ref l), some pv, some (.bl ans2), ov2] ∧ H' = upd H l (.lst (fs2.map (·.1))) ∧
        (∀ g ∈ fs2, zN H g.2 g.1 ∧ g.2.leaf = false ∧ g.2.ok hs) ∧ m2 = fs2.length ∧
        ((pv = .non ∧ unw hs rs fs2 ans2 = ev hs rs c ∧ wt fs2 < d.size + wt fs) ∨ ∃ d2, zN H d2 pv ∧ d2.ok hs ∧ unw hs rs fs2 (ev hs rs d2) = ev hs rs c ∧ d2.size + wt fs2 < d.size + wt fs)) fs1.length
        ⟨fs1, .non, _, ov, rfl, rfl, hf1, rfl, .inl ⟨rfl, ed1, by omega⟩⟩ ?_
      rintro m2 σ H' ⟨fs2, pv2, ans2, ov2, rfl, rfl, hf2, rfl, hc2⟩;refine ⟨_, rfl, _, .inl ⟨_, SqL.of zm, rfl⟩, _, ⟨_, rfl, rfl, _, rfl, rfl, rfl⟩, ?_⟩;rcases hc2 with ⟨rfl, e2, l2⟩ | ⟨d2, hd2, ok2, e2, l2⟩
      · by_cases hne : fs2 = []
        · subst hne;refine ifF (by rfl) ?_;exact ⟨0, by omega, [], .non, ans2, ov2, rfl, rfl, hf2, Nat.zero_le _, .inr ⟨rfl, rfl, e2, rfl⟩⟩
        · obtain ⟨gs, g, rfl⟩ := z4i hne;refine ifT (by simp) ?_;refine ⟨_, fun σ' H' z => z, ?_⟩;obtain ⟨hg, lg, og⟩ := hf2 g (List.mem_append_right _ (List.mem_singleton.mpr rfl));have hgs : ∀ g' ∈ gs, zN H g'.2 g'.1 ∧ g'.2.leaf = false ∧ g'.2.ok hs := fun g' h => hf2 g' (List.mem_append_left _ h)
          rw [z4R] at e2;rw [z6l] at l2;have lgs : gs.length < (gs ++ [g]).length := by rw [List.length_append, List.length_singleton]; omega
          refine ⟨_, rfl, .inl ⟨rfl, _, SqL.of zm⟩, l, _, g.1, rfl, rfl, zm, by rw [List.map_append]; exact z2E _ _, ?_⟩;have eh : upd (upd H l (.lst ((gs ++ [g]).map (·.1)))) l (.lst (((gs ++ [g]).map (·.1)).dropLast)) = upd H l (.lst (gs.map (·.1))) := by
            rw [z0p, List.map_append]
            show upd H l (.lst ((gs.map (·.1) ++ [g.1]).dropLast)) = _
            rw [List.dropLast_concat]
          rw [eh];obtain ⟨gv, gc⟩ := g;cases gc with
          | less a b => cases lg
          | same a b => cases lg
          | no x =>
            obtain ⟨p, y, ep, hp', _⟩ := hg;cases ep;refine ⟨_, rfl, p, _, _, _, rfl, rfl, SqT.of (kB hn _ _ hp'), zQ, rfl, _, rfl, ?_⟩;refine ifT (by decide +kernel) ?_;refine ⟨_, rfl, _, rfl, ?_⟩;exact ⟨gs.length, lgs, gs, .non, !ans2, _, rfl, rfl, hgs, rfl, .inl ⟨rfl, e2, by omega⟩⟩
          | an x y =>
            obtain ⟨p, vx, vy, ep, hp', hx, hy⟩ := hg;cases ep;refine ⟨_, rfl, p, _, _, _, rfl, rfl, SqT.of (kB hn _ _ hp'), zQ, rfl, _, rfl, ?_⟩;refine ifF (by decide +kernel) ?_;refine ⟨_, rfl, _, rfl, p, _, _, _, rfl, rfl, SqT.of (kB hn _ _ hp'), zQ, rfl, rfl, _, rfl, ?_⟩;cases ans2 with
            | true =>
              refine ifT (by decide +kernel) ?_;refine ⟨_, rfl, p, _, _, _, rfl, rfl, SqT.of (kB hn _ _ hp'), jx, ?_⟩;exact ⟨gs.length, lgs, gs, vy, true, _, rfl, rfl, hgs, rfl, .inr ⟨y, hy, og.2, e2, by simp only [wgt] at l2; omega⟩⟩
            | false =>
              refine ifF (by decide +kernel) ?_;exact ⟨gs.length, lgs, gs, .non, false, _, rfl, rfl, hgs, rfl, .inl ⟨rfl, e2, by omega⟩⟩
          | or x y =>
            obtain ⟨p, vx, vy, ep, hp', hx, hy⟩ := hg;cases ep;refine ⟨_, rfl, p, _, _, _, rfl, rfl, SqT.of (kB hn _ _ hp'), zQ, rfl, _, rfl, ?_⟩;refine ifF (by decide +kernel) ?_;refine ⟨_, rfl, _, rfl, p, _, _, _, rfl, rfl, SqT.of (kB hn _ _ hp'), zQ, rfl, rfl, _, rfl, ?_⟩;cases ans2 with
            | false =>
              refine ifT (by decide +kernel) ?_;refine ⟨_, rfl, p, _, _, _, rfl, rfl, SqT.of (kB hn _ _ hp'), jx, ?_⟩;exact ⟨gs.length, lgs, gs, vy, false, _, rfl, rfl, hgs, rfl, .inr ⟨y, hy, og.2, e2, by simp only [wgt] at l2; omega⟩⟩
            | true =>
              refine ifF (by decide +kernel) ?_;exact ⟨gs.length, lgs, gs, .non, true, _, rfl, rfl, hgs, rfl, .inl ⟨rfl, e2, by omega⟩⟩
      · obtain ⟨p2, x2, rfl, hp2⟩ := hd2.ref;refine ifF (by simp) ?_;exact ⟨d2.size + wt fs2, l2, fs2, _, ans2, ov2, rfl, rfl, hf2, by omega, .inl ⟨d2, hd2, ok2, e2, rfl⟩⟩
  · -- no part is left
    refine ⟨_, rfl, rfl, _, rfl, ?_⟩;refine ifF (by rfl) ?_;refine ⟨_, rfl, ?_⟩;exact q _ (put _)

inductive Kid where
  | s (x : Side) | c (x : Cond)
noncomputable def Kid.At (H : Hp) (k : V × Kid) : Prop := match k.2 with
  | .s x => k.1 = x.v
  | .c x => zN H x k.1
noncomputable def Kid.cols : Kid → List Str
  | .s x => x.cols
  | .c x => x.cols
noncomputable def Kid.size : Kid → Nat
  | .s _ => 0
  | .c x => x.size
theorem z7a {H : Hp} {c : Cond} {v : V} (h : zN H c v) : ∃ (p : Addr) (w : Str) (ks : List (V × Kid)), v = .ref p ∧ H p = some (.tup (.str w :: ks.map (·.1))) ∧ ks.length ≤ 2 ∧ ks ≠ [] ∧ (∀ k ∈ ks, Kid.At H k) ∧ (∀ s, s ∈ c.cols ↔ ∃ k ∈ ks, s ∈ k.2.cols) ∧ (ks.map fun k => k.2.size).sum + 1 = c.size := by
  cases c with
  | less a b =>
    obtain ⟨p, rfl, h⟩ := h;exact ⟨p, _, [(a.v, .s a), (b.v, .s b)], rfl, h, by simp, by simp, by simp [Kid.At], by simp [Cond.cols, Kid.cols], rfl⟩
  | same a b =>
    obtain ⟨p, rfl, h⟩ := h;exact ⟨p, _, [(a.v, .s a), (b.v, .s b)], rfl, h, by simp, by simp, by simp [Kid.At], by simp [Cond.cols, Kid.cols], rfl⟩
  | no c =>
    obtain ⟨p, x, rfl, h, h1⟩ := h;exact ⟨p, _, [(x, .c c)], rfl, h, by simp, by simp, by simpa [Kid.At] using h1, by simp [Cond.cols, Kid.cols], rfl⟩
  | an c d =>
    obtain ⟨p, x, y, rfl, h, h1, h2⟩ := h;exact ⟨p, _, [(x, .c c), (y, .c d)], rfl, h, by simp, by simp, by simpa [Kid.At] using ⟨h1, h2⟩, by simp [Cond.cols, Kid.cols], by simp [Kid.size, Cond.size]⟩
  | or c d =>
    obtain ⟨p, x, y, rfl, h, h1, h2⟩ := h;exact ⟨p, _, [(x, .c c), (y, .c d)], rfl, h, by simp, by simp, by simpa [Kid.At] using ⟨h1, h2⟩, by simp [Cond.cols, Kid.cols], by simp [Kid.size, Cond.size]⟩
theorem z70 (x : V) (r : List V) : z0Z (x :: r) (some 1) none = r := by
  have e : HT.sIx (x :: r).length 0 (some 1) = 1 := by
    have e : HT.sIx (x :: r).length 0 (some 1) = min 1 (r.length + 1) := rfl;rw [e];omega
  unfold z0Z;rw [e]
  show (r.take ((r.length + 1) - 1)) = r
  rw [Nat.add_sub_cancel, List.take_length]
theorem z6Z (x : V) (r : List V) : ¬ (HT.sIx (x :: r).length 0 (some 1) = 0 ∧ HT.sIx (x :: r).length (x :: r).length none = (x :: r).length) := by
  rintro ⟨h, _⟩;have e : HT.sIx (x :: r).length 0 (some 1) = min 1 (r.length + 1) := rfl;rw [e] at h;omega
theorem z8z {kvs : List (Key × V)} {ss : List Str} {n : Str} {v : V} (hk : kvs.map (·.1) = ss.map Sum.inr) (nd : ss.Nodup) :
    ∃ ss' : List Str, (putK kvs (Sum.inr n) v).map (·.1) = ss'.map Sum.inr ∧ ss'.Nodup ∧ ∀ s, s ∈ ss' ↔ s ∈ ss ∨ s = n := by
  have mem : ∀ s, Sum.inr s ∈ kvs.map (·.1) ↔ s ∈ ss := fun s => by
    rw [hk];simp
  cases e : jL kvs (Sum.inr n : Key) with
  | some w =>
    have hn : n ∈ ss := (mem n).mp (z93 e);refine ⟨ss, ?_, nd, fun s => ⟨.inl, fun h => h.elim id fun z => z ▸ hn⟩⟩;unfold putK;rw [kC, e];rw [Option.isSome_some, if_pos rfl, List.map_map, ← hk];refine List.map_congr_left fun kv _ => ?_
    show (if kv.1 = Sum.inr n then (kv.1, v) else kv).1 = kv.1
    split <;> rfl
  | none =>
    have hn : n ∉ ss := fun z => z7Y e ((mem n).mpr z)
    refine ⟨ss ++ [n], ?_, z4A nd hn, fun s => by simp⟩;rw [z57 v e, List.map_append, hk, List.map_append]
    rfl
noncomputable def z5E (K : PySem.W.Frag) : Sp := fun vs H Q _ => ∃ (c : Cond) (vc : V) (us : List Str), vs = [vc] ∧ zN H c vc ∧ c.size ≤ 1000 ∧ (∀ s ∈ c.cols, s ∈ us) ∧ us.length ≤ 60 ∧
  ∀ (l : Addr) (ss : List Str) (H' : Hp), zF H H' → H' l = some (.lst (ss.map V.str)) → ss.Nodup → (∀ s, s ∈ ss ↔ s ∈ c.cols) → ss.Pairwise leS → Q (.ref l) H'
noncomputable def z0B (fs : List (V × Cond)) : Nat := (fs.map fun i => i.2.size).sum
theorem z3F (its : List (V × Cond)) (i : V × Cond) : z0B (its ++ [i]) = z0B its + i.2.size := by simp [z0B]
theorem z5a : ∀ its : List (V × Cond), its.length ≤ z0B its
  | [] => Nat.le_refl _
  | i :: r => by
    have h1 := z5a r;have h2 := i.2.size_pos;have h3 : z0B (i :: r) = i.2.size + z0B r := by simp [z0B]
    rw [h3, List.length_cons];omega
theorem yI : FnScope ["condition", "names", "waiting", "part", "inner"] ["condition"] (zl kW) := ⟨rfl, rfl, rfl, by decide +kernel, rfl, by decide +kernel, by decide +kernel⟩
theorem z3z (F : Fun K "columns_of" "columns_of" kW f fd) (T : Txt K mg) : FnOk P w K mg base CX0 1 f fd ["condition"] (z5E K) := by
  refine F.ok yI (fun vs H Q E h => ?_) (fun cdv A outer s H vs Q E hr h => ?_)
  · obtain ⟨c, vc, us, rfl, _⟩ := h
    rfl
  obtain ⟨c, vc, us, rfl, hc, hz, hus, hul, q⟩ := h;have hu := z2X hr;refine ⟨_, (zd (zo (i := 1) yI.nd rfl (Or.inl rfl) z1h)
    (zd (zo (i := 2) yI.nd rfl (Or.inl rfl) (zI (zb (pv 0) ze)))
    (zd (z0M PassesOwn.never (z3g (pv 2) (fun _ => rfl))
      (zd (zo (i := 3) yI.nd rfl (Or.inl rfl) (z4s PySem.F.plainAttrs_list PySem.F.slot_list_pop PySem.F.type_list_pop z4d (pv 2)))
      (zg (jH PassesOwn.never rfl (z1S (jn z4M (pv 3) (jG za) jS)) (jf (i := 4) yI.nd rfl (Or.inl rfl))
        (zg (zO (yl (zx ja rfl T.isinstance PyProof.Rows.boot_isinstance (zb (pv 4) (zb (yw (v := .ty "tuple") rfl T.tuple PyProof.Rows.boot_tuple rfl) ze))))
          (zg (jc (jF PySem.F.plainAttrs_list PySem.F.slot_list_append PySem.F.type_list_append jz (pv 2) (zb (pv 4) ze))))
          (zg (zO (yl (zx ja rfl T.isinstance PyProof.Rows.boot_isinstance (zb (pv 4) (zb (yw (v := .ty "str") rfl T.str PyProof.Rows.boot_str rfl) ze))))
            (zg (z4B hu (pv 1) (pv 4) yP rfl))
            zE))))))))
    (zg (zB (zx (z3C rfl) rfl T.sorted PyProof.Rows.boot_sorted (yW (pv 1) ze))))))), ?_⟩
  refine fun d hd => ?_
  refine ⟨_, rfl, (by show 1 ≤ sizeLine; decide), fun wt hwt => ?_⟩;have s1 := zG hd (.dK []);have s2 := zG hwt (.lst [vc]);have fw : H wt = none := s1.free hwt;have dw : d ≠ wt := zr (H := upd H d (.dK [])) zm hwt;refine z5f ?_;dsimp only;refine z6m ?_;refine z1p (fun m σ H' => ∃ (fs : List (V × Cond)) (kvs : List (Key × V)) (ss : List Str) (o3 o4 : Option V), σ = [some vc, some (.ref d), some (.ref wt), o3, o4] ∧ zF H H' ∧ H' wt = some (.lst (fs.map (·.1))) ∧ H' d = some (.dK kvs) ∧
      kvs.map (·.1) = ss.map Sum.inr ∧ ss.Nodup ∧ (∀ g ∈ fs, zN H g.2 g.1) ∧ (∀ s, s ∈ c.cols ↔ s ∈ ss ∨ ∃ g ∈ fs, s ∈ g.2.cols) ∧ m = z0B fs ∧ m ≤ c.size) c.size
    ⟨[(vc, c)], [], [], none, none, rfl, s1.trans s2, zm, s2 _ _ zm, rfl, List.nodup_nil, by simpa using hc, by simp, by simp [z0B], Nat.le_refl _⟩ ?_
  rintro m σ H' ⟨fs, kvs, ss, o3, o4, rfl, sH, hw, hdd, hk, nd, hf, mem, rfl, hm⟩;have hkl : kvs.length = ss.length := by
    have := congrArg List.length hk
    rwa [List.length_map, List.length_map] at this
  have hsl : ∀ {ss : List Str}, ss.Nodup → (∀ s, s ∈ ss → s ∈ c.cols) → ss.length ≤ 60 := fun nd h => Nat.le_trans (ko nd fun x hx => hus x (h x hx)) hul
  refine ⟨_, rfl, _, .inl ⟨_, SqL.of hw, rfl⟩, ?_⟩;by_cases hne : fs = []
  · subst hne;refine ifF (by rfl) ?_;have hmem : ∀ s, s ∈ ss ↔ s ∈ c.cols := fun s => by rw [mem s]; simp
    have h60 := hsl nd fun s h => (hmem s).mp h
    refine ⟨_, rfl, d, kvs, ss, rfl, hdd, hk, by omega, fun l ss' hl pm so => ?_⟩;exact q l ss' _ (sH.trans (zG hl _)) zm (pm.nodup_iff.mpr nd) (fun s => by rw [pm.mem_iff]; exact hmem s) (z7d so)
  · obtain ⟨gs, g, rfl⟩ := z4i hne;refine ifT (by simp) ?_;refine ⟨_, fun σ' H' z => z, ?_⟩;obtain ⟨gv, gc⟩ := g;rw [z3F] at hm ⊢;replace hm : z0B gs + gc.size ≤ c.size := hm;have hg : zN H gc gv := hf (gv, gc) (by simp);have hgs : ∀ g ∈ gs, zN H g.2 g.1 := fun g h => hf g (by simp [h])
    have e1 : ((gs ++ [(gv, gc)]).map (·.1)) = gs.map (·.1) ++ [gv] := by rw [List.map_append]; rfl
    rw [e1] at hw;obtain ⟨p, word, ks, rfl, hp, hk2, hkn, hka, hkc, hks⟩ := z7a hg;refine ⟨_, rfl, .inl ⟨rfl, _, SqL.of hw⟩, wt, _, _, rfl, rfl, hw, z2E _ _, ?_⟩;have eh : upd H' wt (.lst ((gs.map (·.1) ++ [V.ref p]).dropLast)) = upd H' wt (.lst (gs.map (·.1))) := by
      rw [List.dropLast_concat]
    rw [eh];have s3 : zF H (upd H' wt (.lst (gs.map (·.1)))) := sH.put fw;have h3 : upd H' wt (.lst (gs.map (·.1))) wt = some (.lst (gs.map (·.1))) := zm;have d3 : upd H' wt (.lst (gs.map (·.1))) d = some (.dK kvs) := by rw [zt dw]; exact hdd
    generalize upd H' wt (.lst (gs.map (·.1))) = H3 at s3 h3 d3 ⊢;refine ⟨_, rfl, _, rfl, p, _, rfl, SqT.of (s3 _ _ hp), z6Z _ _, fun t ht => ?_⟩;rw [z70];have s4 := zG ht (.tup (ks.map (·.1)));have h4 := s4 _ _ h3;have d4 := s4 _ _ d3;have t4 : upd H3 t (.tup (ks.map (·.1))) t = some (.tup (ks.map (·.1))) := zm;generalize upd H3 t (.tup (ks.map (·.1))) = H4 at s4 h4 d4 t4 ⊢;have hlk : (ks.map (·.1)).length = ks.length := List.length_map _;refine ⟨t, rfl, ⟨_, SqT.of t4⟩, z4r (K := K) (a := t) (xs := ks.map (·.1)) (fun i σ H5 => ∃ (fs : List (V × Cond)) (kvs : List (Key × V)) (ss : List Str) (o4 : Option V), σ = [some vc, some (.ref d), some (.ref wt), some (.ref p), o4] ∧ zF H H5 ∧ H5 t = some (.tup (ks.map (·.1))) ∧ H5 wt = some (.lst (fs.map (·.1))) ∧ H5 d = some (.dK kvs) ∧
      kvs.map (·.1) = ss.map Sum.inr ∧ ss.Nodup ∧ (∀ g ∈ fs, zN H g.2 g.1) ∧ (∀ s, s ∈ c.cols ↔ s ∈ ss ∨ (∃ g ∈ fs, s ∈ g.2.cols) ∨ ∃ k ∈ ks.drop i, s ∈ k.2.cols) ∧ z0B fs + ((ks.drop i).map fun k => k.2.size).sum + 1 = z0B gs + gc.size)
      ⟨gs, kvs, ss, o4, rfl, s3.trans s4, t4, h4, d4, hk, nd, hgs, fun s => ?_, by rw [List.drop_zero]; omega⟩ (fun i σ H5 _ ⟨_, _, _, _, _, _, ht5, _⟩ => SqT.of ht5) ?_ ?_⟩
    · rw [mem s, List.drop_zero];constructor
      · rintro (h | ⟨g, hg, h⟩)
        · exact .inl h
        · rcases List.mem_append.mp hg with hg | hg
          · exact .inr (.inl ⟨g, hg, h⟩)
          · rw [List.mem_singleton.mp hg] at h;exact .inr (.inr ((hkc s).mp h))
      · rintro (h | ⟨g, hg, h⟩ | h)
        · exact .inl h
        · exact .inr ⟨g, List.mem_append_left _ hg, h⟩
        · exact .inr ⟨(V.ref p, gc), by simp, (hkc s).mpr h⟩
    · rintro i x σ H5 hi ⟨fs, kvs, ss, o4, rfl, s5, t5, w5, d5, hk, nd, hf, mem, hm5⟩;have hil : i < ks.length := by
        have := (List.getElem?_eq_some_iff.mp hi).1
        rwa [hlk] at this
      have hx : x = ks[i].1 := by
        rw [List.getElem?_map, List.getElem?_eq_getElem hil] at hi;exact (Option.some.inj hi).symm
      have hdr : ks.drop i = ks[i] :: ks.drop (i + 1) := List.drop_eq_getElem_cons hil;have hkat := hka ks[i] (List.getElem_mem hil);obtain ⟨⟨kv, kk⟩, hki⟩ : ∃ k, ks[i] = k := ⟨_, rfl⟩
      rw [hki] at hx hkat hdr;replace hx : kv = x := hx.symm;subst hx;rw [hdr] at mem hm5;have hkl : kvs.length = ss.length := by
        have := congrArg List.length hk
        rwa [List.length_map, List.length_map] at this
      have h60 := hsl nd fun s h => (mem s).mpr (.inl h)
      have hfl := z5a fs;have hsum : ((kv, kk) :: ks.drop (i + 1)).map (fun k => k.2.size) = kk.size :: (ks.drop (i + 1)).map (fun k => k.2.size) := rfl;rw [hsum, List.sum_cons] at hm5;cases kk with
      | c y =>
        have hy : zN H y kv := hkat
        obtain ⟨p2, x2, rfl, hp2⟩ := hy.ref;refine ⟨_, rfl, _, _, _, _, rfl, TyOf.tup (s5 _ _ hp2), ye, _, rfl, ?_⟩;refine z5V ?_;refine ⟨_, rfl, .inl ⟨rfl, _, SqL.of w5⟩, _, rfl, wt, _, _, rfl, rfl, w5, zH (by rw [List.length_map]; omega), ?_⟩;have tw : t ≠ wt := z2f t5 w5 (by intro z; cases z);refine ⟨fs ++ [(V.ref p2, y)], kvs, ss, _, rfl, s5.put fw, by rw [zt tw]; exact t5, by rw [zm, List.map_append]; rfl, by rw [zt dw]; exact d5, hk, nd, fun g hg => ?_, fun s => ?_, ?_⟩
        · rcases List.mem_append.mp hg with hg | hg
          · exact hf g hg
          · rw [List.mem_singleton.mp hg]; exact hy
        · rw [mem s];simp only [List.mem_cons, List.mem_append, List.not_mem_nil, or_false];constructor
          · rintro (h | ⟨g, hg, h⟩ | ⟨k, rfl | hk, h⟩)
            · exact .inl h
            · exact .inr (.inl ⟨g, .inl hg, h⟩)
            · exact .inr (.inl ⟨_, .inr rfl, h⟩)
            · exact .inr (.inr ⟨k, hk, h⟩)
          · rintro (h | ⟨g, hg | rfl, h⟩ | ⟨k, hk, h⟩)
            · exact .inl h
            · exact .inr (.inl ⟨g, hg, h⟩)
            · exact .inr (.inr ⟨_, .inl rfl, h⟩)
            · exact .inr (.inr ⟨k, .inr hk, h⟩)
        · rw [z3F]
          show z0B fs + y.size + _ + 1 = _
          have : (Kid.c y).size = y.size := rfl;omega
      | s y =>
        cases y with
        | nm n =>
          have hy : kv = V.str n := hkat
          subst hy;refine ⟨_, rfl, _, _, _, _, rfl, TyOf.str n, z3k, _, rfl, ?_⟩;refine z5D ?_;refine ⟨_, rfl, _, _, _, _, rfl, TyOf.str n, ye, _, rfl, ?_⟩;refine z5V ?_;refine ⟨_, rfl, _, rfl, d, _, rfl, z5S.k (k := Sum.inr n) d5 (zH (by omega)), ?_⟩;obtain ⟨ss', hk', nd', mem'⟩ := z8z (n := n) (v := V.bl true) hk nd;have td : t ≠ d := z2f t5 d5 (by intro z; cases z);have fd : H d = none := hd;refine ⟨fs, _, ss', _, rfl, s5.put hd, by rw [zt td]; exact t5, by rw [zt dw.symm]; exact w5, zm, hk', nd', hf, fun s => ?_, ?_⟩
          · rw [mem s, mem' s];simp only [List.mem_cons];constructor
            · rintro (h | h | ⟨k, rfl | hk, h⟩)
              · exact .inl (.inl h)
              · exact .inr (.inl h)
              · exact .inl (.inr (by simpa [Kid.cols, Side.cols] using h))
              · exact .inr (.inr ⟨k, hk, h⟩)
            · rintro ((h | rfl) | h | ⟨k, hk, h⟩)
              · exact .inl h
              · exact .inr (.inr ⟨_, .inl rfl, by simp [Kid.cols, Side.cols]⟩)
              · exact .inr (.inl h)
              · exact .inr (.inr ⟨k, .inr hk, h⟩)
          · have : (Kid.s (.nm n)).size = 0 := rfl;omega
        | nu j =>
          have hy : kv = V.int j := hkat
          subst hy;refine ⟨_, rfl, _, _, _, _, rfl, TyOf.int j, z3m, _, rfl, ?_⟩;refine z5D ?_;refine ⟨_, rfl, _, _, _, _, rfl, TyOf.int j, z0C, _, rfl, ?_⟩;refine z5D ?_;refine ⟨fs, kvs, ss, _, rfl, s5, t5, w5, d5, hk, nd, hf, fun s => ?_, ?_⟩
          · rw [mem s];simp only [List.mem_cons];constructor
            · rintro (h | h | ⟨k, rfl | hk, h⟩)
              · exact .inl h
              · exact .inr (.inl h)
              · exact absurd h (by simp [Kid.cols, Side.cols])
              · exact .inr (.inr ⟨k, hk, h⟩)
            · rintro (h | h | ⟨k, hk, h⟩)
              · exact .inl h
              · exact .inr (.inl h)
              · exact .inr (.inr ⟨k, .inr hk, h⟩)
          · have : (Kid.s (.nu j)).size = 0 := rfl;omega
    · rintro σ H5 ⟨fs, kvs, ss, o4, rfl, s5, t5, w5, d5, hk, nd, hf, mem, hm5⟩;have hdn : ks.drop (ks.map (·.1)).length = [] := by rw [hlk, List.drop_length]
      rw [hdn] at mem hm5;replace hm5 : z0B fs + 0 + 1 = z0B gs + gc.size := hm5;exact ⟨z0B fs, by show z0B fs < z0B gs + gc.size; omega, fs, kvs, ss, _, _, rfl, s5, w5, d5, hk, nd, hf, fun s => by rw [mem s]; simp, rfl, by omega⟩

noncomputable def joinR (rows others : List (List Int)) (s t : Nat) : List (List Int) := rows.flatMap fun r => (others.filter fun o => decide (r.getD s 0 = o.getD t 0)).map fun o => r ++ o
theorem z5I {rows others : List (List Int)} {s t i : Nat} {r : List Int} (h : rows[i]? = some r) : joinR (rows.take (i + 1)) others s t = joinR (rows.take i) others s t ++ (others.filter fun o => decide (r.getD s 0 = o.getD t 0)).map fun o => r ++ o := by
  unfold joinR;rw [List.take_add_one, h, List.flatMap_append];simp
noncomputable def z3e (K : PySem.W.Frag) : Sp := fun vs H Q _ => ∃ (a b : Addr) (rs os : List (Addr × List Int)) (s t : Int), vs = [.ref a, .ref b, .int s, .int t] ∧ RowsAt H a rs ∧ RowsAt H b os ∧ 0 ≤ s ∧ 0 ≤ t ∧ (∀ r ∈ rs, s.toNat < r.2.length ∧ r.2.length ≤ 100) ∧ (∀ r ∈ os, t.toNat < r.2.length ∧ r.2.length ≤ 100) ∧ rs.length ≤ 100 ∧ os.length ≤ 100 ∧
  ∀ (p : Addr) (qs : List (Addr × List Int)) (H' : Hp), zF H H' → RowsAt H' p qs → qs.map (·.2) = joinR (rs.map (·.2)) (os.map (·.2)) s.toNat t.toNat → Q (.ref p) H'
theorem z55 {x : List Int} {s : Int} (h0 : 0 ≤ s) (h : s.toNat < x.length) : atI (x.map V.int) s = some (.int (x.getD s.toNat 0)) := z6y h0 (int_at h)
noncomputable def kN (os : List (Addr × List Int)) (t : Nat) (z : Int) : List (Addr × List Int) := os.filter fun o => decide (o.2.getD t 0 = z)
theorem kh {os : List (Addr × List Int)} {o : Addr × List Int} {t : Nat} {z : Int} : kN (os ++ [o]) t z = kN os t z ++ (if o.2.getD t 0 = z then [o] else []) := by
  unfold kN;rw [List.filter_append];by_cases h : o.2.getD t 0 = z
  · rw [if_pos h, List.filter_cons, if_pos (decide_eq_true h)]; rfl
  · rw [if_neg h, List.filter_cons, if_neg (by rw [decide_eq_false h]; exact Bool.false_ne_true)]; rfl
structure Gath (H H' : Hp) (dp : Addr) (kvs : List (Key × V)) (os : List (Addr × List Int)) (t : Nat) : Prop where
  same : zF H H'
  free : H dp = none
  dict : H' dp = some (.dK kvs)
  len : kvs.length ≤ os.length
  no : ∀ z : Int, jL kvs (.inl z) = none → kN os t z = []
  yes : ∀ (z : Int) v, jL kvs (.inl z) = some v → ∃ p, v = .ref p ∧ H' p = some (.lst (refs (kN os t z))) ∧ H p = none
  inj : ∀ (z z' : Int) p, jL kvs (.inl z) = some (.ref p) → jL kvs (.inl z') = some (.ref p) → z = z'
theorem Gath.new {H H' H1 : Hp} {dp : Addr} {kvs : List (Key × V)} {os : List (Addr × List Int)} {t : Nat} (g : Gath H H' dp kvs os t) (s : zF H' H1) : Gath H H1 dp kvs os t :=
  ⟨g.same.trans s, g.free, s _ _ g.dict, g.len, g.no, fun z v e => let ⟨p, a, b, c⟩ := g.yes z v e; ⟨p, a, s _ _ b, c⟩, g.inj⟩
theorem z7g {rs : List (Addr × List Int)} {r : Addr × List Int} : refs (rs ++ [r]) = refs rs ++ [V.ref r.1] := by simp [refs]
theorem Gath.more {H H' : Hp} {dp p : Addr} {kvs : List (Key × V)} {os : List (Addr × List Int)} {o : Addr × List Int} {t : Nat} (g : Gath H H' dp kvs os t) (e : jL kvs (.inl (o.2.getD t 0)) = some (.ref p)) :
    Gath H (upd H' p (.lst (refs (kN os t (o.2.getD t 0)) ++ [V.ref o.1]))) dp kvs (os ++ [o]) t := by
  obtain ⟨p', e', hp, fp⟩ := g.yes _ _ e;cases e';refine ⟨g.same.put fp, g.free, ?_, by rw [List.length_append]; have := g.len; omega, fun z hz => ?_, fun z v hz => ?_, g.inj⟩
  · rw [zt (z2f g.dict hp (by intro z; cases z))]; exact g.dict
  · rw [kh, g.no z hz, if_neg (fun q => by rw [q, hz] at e; cases e)]
    rfl
  · obtain ⟨q, rfl, hq, fq⟩ := g.yes z v hz;refine ⟨q, rfl, ?_, fq⟩;by_cases hqp : q = p
    · subst hqp;have := g.inj _ _ _ e hz;subst this;rw [zm, kh, if_pos rfl, z7g]
    · rw [zt hqp, kh, if_neg (fun w => by subst w; rw [e] at hz; cases hz; exact hqp rfl), List.append_nil];exact hq
theorem Gath.first {H H' : Hp} {dp p : Addr} {kvs : List (Key × V)} {os : List (Addr × List Int)} {o : Addr × List Int} {t : Nat} (g : Gath H H' dp kvs os t) (e : jL kvs (.inl (o.2.getD t 0)) = none) (hn : H' p = none) {H1 : Hp} (h1 : zF H' H1) (hp : H1 p = some (.lst [])) :
    Gath H (upd (upd H1 dp (.dK (putK kvs (.inl (o.2.getD t 0)) (.ref p)))) p (.lst [V.ref o.1])) dp (putK kvs (.inl (o.2.getD t 0)) (.ref p)) (os ++ [o]) t := by
  have ndp : dp ≠ p := zr g.dict hn;have g1 := g.new h1;refine ⟨(g1.same.put g.free).put (g.same.free hn), g.free, by rw [zt ndp, zm], ?_, fun z hz => ?_, fun z v hz => ?_, fun z z' q h1 h2 => ?_⟩
  · rw [List.length_append];have := z0a kvs (.inl (o.2.getD t 0)) (.ref p);have := g.len;simp only [List.length_singleton];omega
  · rw [z32] at hz;split at hz
    · cases hz
    · rename_i hne;rw [kh, g.no z hz, if_neg (fun q => hne (by rw [q]))]
      rfl
  · rw [z32] at hz;split at hz
    · rename_i he;cases hz;have hz' : z = o.2.getD t 0 := Sum.inl.inj he;subst hz';refine ⟨p, rfl, ?_, g.same.free hn⟩;rw [zm, kh, g.no _ e, if_pos rfl]
      rfl
    · rename_i hne;obtain ⟨q, rfl, hq, fq⟩ := g1.yes z v hz;obtain ⟨q', e', hq', _⟩ := g.yes z _ hz;cases e';refine ⟨q, rfl, ?_, fq⟩;rw [zt (zr hq' hn), zt (z2f hq g1.dict (by intro z; cases z)), kh, if_neg (fun w => hne (by rw [w])), List.append_nil];exact hq
  · rw [z32] at h1 h2;split at h1
    · rename_i a1;split at h2
      · rename_i a2;exact Sum.inl.inj (a1.trans a2.symm)
      · cases h1;obtain ⟨q', e', hq', _⟩ := g.yes z' _ h2;cases e';exact absurd rfl (zr hq' hn)
    · split at h2
      · cases h2;obtain ⟨q', e', hq', _⟩ := g.yes z _ h1;cases e';exact absurd rfl (zr hq' hn)
      · exact g.inj z z' q h1 h2
theorem z7f {os : List (Addr × List Int)} {t : Nat} {z : Int} : (kN os t z).map (·.2) = (os.map (·.2)).filter fun o => decide (z = o.getD t 0) := by
  unfold kN
  induction os with
  | nil => rfl
  | cons o os ih =>
    rw [List.map_cons, List.filter_cons, List.filter_cons];by_cases h : o.2.getD t 0 = z
    · rw [if_pos (decide_eq_true h), if_pos (decide_eq_true h.symm), List.map_cons, ih]
    · rw [if_neg (by rw [decide_eq_false h]; exact Bool.false_ne_true), if_neg (by rw [decide_eq_false (p := z = o.2.getD t 0) fun w => h w.symm]; exact Bool.false_ne_true), ih]
theorem z01 : FnScope ["rows", "others", "spot", "place", "gathered", "other", "found", "row"] ["rows", "others", "spot", "place"] (zl z1A) := ⟨rfl, rfl, rfl, by decide +kernel, rfl, by decide +kernel, by decide +kernel⟩
theorem z6U (F : Fun K "joined" "joined" z1A f fd) (T : Txt K mg) : FnOk P w K mg base CX0 1 f fd ["rows", "others", "spot", "place"] (z3e K) := by
  refine F.ok z01 (fun vs H Q E h => ?_) (fun cdv A outer s H vs Q E hr h => ?_)
  · obtain ⟨a, b, rs, os, s, t, rfl, _⟩ := h
    rfl
  obtain ⟨a, b, rs, os, s, t, rfl, ha, hb, s0, t0, hrs, hos, lrs, los, q⟩ := h;have hu := z2X hr;refine ⟨_, (zd (zo (i := 4) z01.nd rfl (Or.inl rfl) z1h)
    (zd (jH PassesOwn.never rfl (zX (pv 1)) (jf (i := 5) z01.nd rfl (Or.inl rfl))
      (zg (jc (jF PySem.F.plainAttrs_list PySem.F.slot_list_append PySem.F.type_list_append jz (z5J (pv 4) (zh zz (pv 5) (pv 3) (fun _ _ => rfl)) (zI ze) ⟨rfl, rfl, rfl, rfl⟩) (zb (pv 5) ze)))))
    (zd (zo (i := 6) z01.nd rfl (Or.inl rfl) (zI ze))
    (zd (jH PassesOwn.never rfl (zX (pv 0)) (jf (i := 7) z01.nd rfl (Or.inl rfl))
      (zg (jH PassesOwn.never rfl (zX (z2T hu (pv 4) (zh zz (pv 7) (pv 2) (fun _ _ => rfl)) (zI ze) ⟨rfl, rfl, rfl, rfl⟩)) (jf (i := 5) z01.nd rfl (Or.inl rfl))
        (zg (jc (jF PySem.F.plainAttrs_list PySem.F.slot_list_append PySem.F.type_list_append jz (pv 6) (ya (zp yS (pv 7) (pv 5)) ze)))))))
    (zg (zB (pv 6))))))), ?_⟩
  have hlr : (refs rs).length = rs.length := List.length_map _;have hlo : (refs os).length = os.length := List.length_map _;have z0 : 0 ≤ sizeLine := by decide
  refine fun dp hdp => ?_
  have s1 := zG hdp (.dK []);refine ⟨_, rfl, b, rfl, ⟨_, SqL.of (s1 _ _ hb.1)⟩, jT (K := K) (a := b) (xs := refs os) (fun j σ H' => ∃ (kvs : List (Key × V)) (o5 : Option V), σ = [some (.ref a), some (.ref b), some (.int s), some (.int t), some (.ref dp), o5, none, none] ∧ Gath H H' dp kvs (os.take j) t.toNat)
    ⟨[], none, rfl, s1, hdp, zm, Nat.le_refl _, fun _ _ => rfl, fun z v e => (by cases e), fun z z' p e => (by cases e)⟩ (fun i σ H' _ ⟨_, _, _, g⟩ => SqL.of (g.same _ _ hb.1)) ?_ ?_⟩
  · rintro j x σ H2 hj ⟨kvs, o5, rfl, g⟩;have hjo : j < os.length := by
      have := (List.getElem?_eq_some_iff.mp hj).1
      rwa [hlo] at this
    rw [jO hjo] at hj;cases hj;obtain ⟨ho1, ho2⟩ := hos _ (List.getElem_mem hjo);have hO := g.same _ _ (hb.2 _ (List.getElem_mem hjo)).2;have tk : os.take (j + 1) = os.take j ++ [os[j]] := by rw [List.take_add_one, List.getElem?_eq_getElem hjo]; rfl
    have lt : (os.take j).length ≤ 100 := by rw [List.length_take]; omega
    refine ⟨_, rfl, dp, rfl, .inl ⟨_, .inl g.dict⟩, _, rfl, _, rfl, _, _, _, _, rfl, rfl, SqL.of hO, z55 t0 ho1, z0, fun np hnp => ?_⟩;have n1 := zG hnp (.lst []);have np1 : upd H2 np (.lst []) np = some (.lst []) := zm;generalize upd H2 np (.lst []) = H3 at n1 np1 ⊢;have g3 := g.new n1;refine ⟨kvs, .inl (os[j].2.getD t.toNat 0), g3.dict, rfl, zH (by have := g.len; omega), fun v hv => ?_, fun hv => ?_⟩
    · obtain ⟨p, rfl, hp, fp⟩ := g3.yes _ _ hv;refine ⟨.inl ⟨rfl, _, SqL.of hp⟩, _, rfl, p, _, _, rfl, rfl, hp, zH (by rw [List.length_map]; have : (kN (os.take j) t.toNat (os[j].2.getD t.toNat 0)).length ≤ (os.take j).length := List.length_filter_le _ _; omega), ?_⟩;refine ⟨kvs, _, rfl, ?_⟩;rw [tk];exact g3.more hv
    · have ndp : np ≠ dp := (zr g.dict hnp).symm;refine ⟨.inl ⟨rfl, _, SqL.of (by rw [zt ndp]; exact np1)⟩, _, rfl, np, _, _, rfl, rfl, by rw [zt ndp]; exact np1, zH (by decide), ?_⟩;refine ⟨putK kvs (.inl (os[j].2.getD t.toNat 0)) (.ref np), _, rfl, ?_⟩;rw [tk];exact g.first hv hnp n1 np1
  · rintro σ H2 ⟨kvs, o5, rfl, g⟩;rw [hlo, List.take_length] at g;refine ⟨z0, fun fp hfp => ?_⟩;have f1 := zG hfp (.lst []);have fp1 : upd H2 fp (.lst []) fp = some (.lst []) := zm;generalize upd H2 fp (.lst []) = H3 at f1 fp1 ⊢;have g3 := g.new f1;have fpH : H fp = none := g.same.free hfp;refine ⟨_, rfl, a, rfl, ⟨_, SqL.of (g3.same _ _ ha.1)⟩, jT (K := K) (a := a) (xs := refs rs) (fun i σ H' => ∃ (ds : List (Addr × List Int)) (o5 o7 : Option V), σ = [some (.ref a), some (.ref b), some (.int s), some (.int t), some (.ref dp), o5, some (.ref fp), o7] ∧ zF H2 H' ∧ RowsAt H' fp ds ∧
      ds.map (·.2) = joinR ((rs.map (·.2)).take i) (os.map (·.2)) s.toNat t.toNat ∧ ds.length ≤ i * 100) ⟨[], o5, none, rfl, f1, yi fp1, rfl, Nat.le_refl _⟩ (fun i σ H' _ ⟨_, _, _, _, sm, _⟩ => SqL.of (sm _ _ (g.same _ _ ha.1))) ?_ ?_⟩
    · rintro i x σ H4 hi ⟨ds, o5, o7, rfl, s4, hd, ed, ld⟩;have hir : i < rs.length := by
        have := (List.getElem?_eq_some_iff.mp hi).1
        rwa [hlr] at this
      rw [jO hir] at hi;cases hi;obtain ⟨hr1, hr2⟩ := hrs _ (List.getElem_mem hir);have g4 := g.new s4;have hR := g4.same _ _ (ha.2 _ (List.getElem_mem hir)).2;refine ⟨_, rfl, dp, rfl, .inl ⟨_, .inl g4.dict⟩, _, rfl, _, rfl, _, _, _, _, rfl, rfl, SqL.of hR, z55 s0 hr1, z0, fun np hnp => ?_⟩;have n1 := zG hnp (.lst []);have np1 : upd H4 np (.lst []) np = some (.lst []) := zm;generalize upd H4 np (.lst []) = H5 at n1 np1 ⊢;have g5 := g4.new n1;have s5 := s4.trans n1;have hd5 := hd.same n1;refine ⟨_, z2m.k (k := .inl (rs[i].2.getD s.toNat 0)) g5.dict, ?_⟩;obtain ⟨p, ep, hp, np'⟩ : ∃ p, (jL kvs (.inl (rs[i].2.getD s.toNat 0))).getD (.ref np) = .ref p ∧ H5 p = some (.lst (refs (kN os t.toNat (rs[i].2.getD s.toNat 0)))) ∧ p ≠ fp := by
        cases hv : jL kvs (.inl (rs[i].2.getD s.toNat 0)) with
        | none => exact ⟨np, rfl, by rw [g.no _ hv]; exact np1, (zr hd.1 hnp).symm⟩
        | some v =>
          obtain ⟨p, rfl, hp, _⟩ := g.yes _ _ hv;exact ⟨p, rfl, s5 _ _ hp, zr hp hfp⟩
      rw [ep];have hlF : (refs (kN os t.toNat (rs[i].2.getD s.toNat 0))).length = (kN os t.toNat (rs[i].2.getD s.toNat 0)).length := List.length_map _;have hF : ∀ o ∈ kN os t.toNat (rs[i].2.getD s.toNat 0), o ∈ os := fun o m => (List.mem_filter.mp m).1
      have lF : (kN os t.toNat (rs[i].2.getD s.toNat 0)).length ≤ 100 := Nat.le_trans (List.length_filter_le _ _) los;have eF : (kN os t.toNat (rs[i].2.getD s.toNat 0)).map (·.2) = (os.map (·.2)).filter fun o => decide (rs[i].2.getD s.toNat 0 = o.getD t.toNat 0) := z7f
      generalize kN os t.toNat (rs[i].2.getD s.toNat 0) = fs at hp hlF hF lF eF ⊢;refine ⟨p, rfl, ⟨_, SqL.of hp⟩, jT (K := K) (a := p) (xs := refs fs) (fun j σ H' => ∃ (ds : List (Addr × List Int)) (o5 : Option V), σ = [some (.ref a), some (.ref b), some (.int s), some (.int t), some (.ref dp), o5, some (.ref fp), some (.ref rs[i].1)] ∧ zF H2 H' ∧ H' p = some (.lst (refs fs)) ∧ RowsAt H' fp ds ∧
        ds.map (·.2) = joinR ((rs.map (·.2)).take i) (os.map (·.2)) s.toNat t.toNat ++ ((fs.map (·.2)).take j).map (fun o => rs[i].2 ++ o) ∧ ds.length ≤ i * 100 + j)
        ⟨ds, o5, rfl, s5, hp, hd5, by rw [ed]; simp, by omega⟩ (fun j σ H' _ ⟨_, _, _, _, z, _⟩ => SqL.of z) ?_ ?_⟩
      · rintro j y σ H6 hj ⟨ds, o5, rfl, s6, hp6, hd, ed, ld⟩;have hjo : j < fs.length := by
          have := (List.getElem?_eq_some_iff.mp hj).1
          rwa [hlF] at this
        rw [jO hjo] at hj;cases hj;have mo := hF _ (List.getElem_mem hjo);obtain ⟨ho1, ho2⟩ := hos _ mo;have hR := s6 _ _ (g.same _ _ (ha.2 _ (List.getElem_mem hir)).2);have hO := s6 _ _ (g.same _ _ (hb.2 _ mo).2);refine ⟨_, rfl, .inl ⟨rfl, _, SqL.of hd.1⟩, _, rfl, _, rfl, _, _, _, _, rfl, rfl, hR, hO, zq (by rw [List.length_map, List.length_map]; omega), fun q1 hq1 => ?_⟩;have n1 := zG hq1 (.lst (rs[i].2.map V.int ++ fs[j].2.map V.int));have hd1 := hd.same n1;refine ⟨fp, _, _, rfl, rfl, hd1.1, zH (by rw [List.length_map]; omega), ?_⟩;have nq : q1 ≠ fp := (zr hd.1 hq1).symm;refine ⟨ds ++ [(q1, rs[i].2 ++ fs[j].2)], _, rfl, (s6.trans n1).put hfp, by rw [zt np']; exact n1 _ _ hp6, hd1.push nq (by rw [zm, List.map_append]), ?_, by rw [List.length_append, List.length_singleton]; omega⟩;rw [List.map_append, ed, List.take_add_one, z0q hjo, List.map_append, List.append_assoc]
        rfl
      · rintro σ H6 ⟨ds, o5, rfl, s6, hp6, hd, ed, ld⟩;refine ⟨ds, _, _, rfl, s6, hd, ?_, by rw [hlF] at ld; omega⟩;rw [ed, z5I (z0q hir), hlF, show (fs.map (·.2)).take fs.length = fs.map (·.2) from List.take_of_length_le (by rw [List.length_map]; exact Nat.le_refl _), eF]
    · rintro σ H4 ⟨ds, o5, o7, rfl, s4, hd, ed, ld⟩;refine ⟨_, rfl, q fp ds H4 (g.same.trans s4) hd ?_⟩;rw [ed, hlr, show (rs.map (·.2)).take rs.length = rs.map (·.2) from List.take_of_length_le (by rw [List.length_map]; exact Nat.le_refl _)]
noncomputable def z03 (k v : Int) (m : List Int) : List Int := if m.getD 0 0 = k then [m.getD 0 0, m.getD 1 0 + 1, m.getD 2 0 + v] else m
noncomputable def z0F (acc : List (List Int)) (k v : Int) : List (List Int) := acc.map (z03 k v) ++ (if (acc.any fun m => decide (m.getD 0 0 = k)) = true then [] else [[k, 1, v]])
noncomputable def yC (rows : List (List Int)) (s t : Nat) : List (List Int) := rows.foldl (fun acc r => z0F acc (r.getD s 0) (r.getD t 0)) []
theorem z4S {rows : List (List Int)} {s t i : Nat} {r : List Int} (h : rows[i]? = some r) : yC (rows.take (i + 1)) s t = z0F (yC (rows.take i) s t) (r.getD s 0) (r.getD t 0) := by
  unfold yC;rw [List.take_add_one, h, List.foldl_append]
  rfl
noncomputable def z27 (K : PySem.W.Frag) : Sp := fun vs H Q _ => ∃ (a : Addr) (rs : List (Addr × List Int)) (s t : Int), vs = [.ref a, .int s, .int t] ∧ RowsAt H a rs ∧ 0 ≤ s ∧ 0 ≤ t ∧ (∀ r ∈ rs, s.toNat < r.2.length ∧ t.toNat < r.2.length ∧ r.2.length ≤ 100) ∧ rs.length ≤ 100 ∧
  ∀ (p : Addr) (qs : List (Addr × List Int)) (H' : Hp), zF H H' → RowsAt H' p qs → qs.map (·.2) = yC (rs.map (·.2)) s.toNat t.toNat → Q (.ref p) H'
theorem three {m : List Int} (h : m.length = 3) : m = [m.getD 0 0, m.getD 1 0, m.getD 2 0] := by
  match m, h with
  | [x, y, z], _ => rfl
noncomputable def view (c : Nat) (acc : List (List Int)) : List (Key × V) := acc.map fun m => ((.inl (m.getD 0 0) : Key), V.int (m.getD c 0))
theorem z1w {c : Nat} {acc : List (List Int)} {k : Int} : jL (view c acc) (.inl k) = (acc.find? fun m => decide (m.getD 0 0 = k)).map fun m => V.int (m.getD c 0) := by
  unfold jL view;rw [List.find?_map, Option.map_map];have : ((fun kv : Key × V => decide (kv.1 = Sum.inl k)) ∘ fun m : List Int => ((.inl (m.getD 0 0) : Key), V.int (m.getD c 0))) = fun m => decide (m.getD 0 0 = k) := by
    funext m
    simp
  rw [this]
  rfl
theorem z3V {acc : List (List Int)} (nd : (acc.map fun m => m.getD 0 0).Nodup) {m : List Int} (h : m ∈ acc) : acc.find? (fun x => decide (x.getD 0 0 = m.getD 0 0)) = some m := by
  induction acc with
  | nil => cases h
  | cons a r ih =>
    rw [List.map_cons, List.nodup_cons] at nd;rw [List.find?_cons];rcases List.mem_cons.mp h with rfl | h
    · simp
    · have hne : a.getD 0 0 ≠ m.getD 0 0 := fun z => nd.1 (List.mem_map.mpr ⟨m, h, z.symm⟩)
      rw [decide_eq_false hne];exact ih nd.2 h
theorem z7u {k v : Int} {m : List Int} : (z03 k v m).getD 0 0 = m.getD 0 0 := by
  unfold z03;split <;> rfl
theorem z6X {acc : List (List Int)} {k v : Int} (nd : (acc.map fun m => m.getD 0 0).Nodup) : ((z0F acc k v).map fun m => m.getD 0 0).Nodup := by
  unfold z0F;rw [List.map_append, List.map_map];have e : ((fun m : List Int => m.getD 0 0) ∘ z03 k v) = fun m => m.getD 0 0 := by
    funext m; exact z7u
  rw [e];split
  · simpa using nd
  · rename_i hn;refine z4A nd fun hm => hn ?_
    obtain ⟨m, hm, e⟩ := List.mem_map.mp hm;exact List.any_eq_true.mpr ⟨m, hm, decide_eq_true e⟩
theorem z58 {c : Nat} {acc : List (List Int)} {k v d cur : Int} (nd : (acc.map fun m => m.getD 0 0).Nodup) (hc : (c = 1 ∧ d = 1) ∨ (c = 2 ∧ d = v)) (hcur : (jL (view c acc) (.inl k)).getD (.int 0) = .int cur) :
    putK (view c acc) (.inl k) (.int (cur + d)) = view c (z0F acc k v) := by
  rw [z1w] at hcur;cases hf : acc.find? fun m => decide (m.getD 0 0 = k) with
  | none =>
    rw [hf] at hcur;have hcur : V.int 0 = V.int cur := hcur;cases hcur;have hall : ∀ m ∈ acc, m.getD 0 0 ≠ k := fun m hm => by simpa using List.find?_eq_none.mp hf m hm
    have hany : ¬ (acc.any fun m => decide (m.getD 0 0 = k)) = true := fun h => by
      obtain ⟨m, hm, e⟩ := List.any_eq_true.mp h;exact hall m hm (of_decide_eq_true e)
    rw [z57 _ (by rw [z1w, hf]; rfl)];unfold z0F view;rw [if_neg hany, List.map_append]
    congr 1
    · rw [List.map_map];refine List.map_congr_left fun m hm => ?_
      show _ = ((.inl ((z03 k v m).getD 0 0) : Key), V.int ((z03 k v m).getD c 0))
      unfold z03;rw [if_neg (hall m hm)]
    · rcases hc with ⟨rfl, rfl⟩ | ⟨rfl, rfl⟩ <;> simp
  | some m0 =>
    rw [hf] at hcur;have hcur : V.int (m0.getD c 0) = V.int cur := hcur;cases hcur;have hm0 : m0 ∈ acc := List.mem_of_find?_eq_some hf;have hk0 : m0.getD 0 0 = k := by simpa using List.find?_some hf
    have hany : (acc.any fun m => decide (m.getD 0 0 = k)) = true := List.any_eq_true.mpr ⟨m0, hm0, decide_eq_true hk0⟩;have uniq : ∀ m ∈ acc, m.getD 0 0 = k → m = m0 := fun m hm e => by
      have := z3V nd hm;rw [e, hf] at this;exact (Option.some.inj this).symm
    unfold putK;have ha : ((view c acc).any fun kv => decide (kv.1 = (.inl k : Key))) = true := by
      unfold view;rw [List.any_map];exact List.any_eq_true.mpr ⟨m0, hm0, by show decide ((.inl (m0.getD 0 0) : Key) = .inl k) = true; rw [hk0]; exact decide_eq_true rfl⟩
    rw [if_pos ha];unfold z0F view;rw [if_pos hany, List.append_nil, List.map_map, List.map_map];refine List.map_congr_left fun m hm => ?_
    show (if (.inl (m.getD 0 0) : Key) = .inl k then _ else _) = ((.inl ((z03 k v m).getD 0 0) : Key), V.int ((z03 k v m).getD c 0))
    unfold z03;by_cases e : m.getD 0 0 = k
    · rw [if_pos (by rw [e]), if_pos e, uniq m hm e];rcases hc with ⟨rfl, rfl⟩ | ⟨rfl, rfl⟩ <;> simp
    · rw [if_neg (fun z => e (Sum.inl.inj z)), if_neg e]
theorem z82 {acc : List (List Int)} {k v : Int} : (z0F acc k v).length ≤ acc.length + 1 := by
  unfold z0F;rw [List.length_append, List.length_map];split <;> simp
theorem z5Z {acc : List (List Int)} {k v : Int} (h : ∀ m ∈ acc, m.length = 3) : ∀ m ∈ z0F acc k v, m.length = 3 := fun m hm => by
  unfold z0F at hm;rcases List.mem_append.mp hm with hm | hm
  · obtain ⟨x, hx, rfl⟩ := List.mem_map.mp hm;unfold z03;split
    · rfl
    · exact h x hx
  · split at hm
    · cases hm
    · rw [List.mem_singleton.mp hm]; rfl
theorem z7t {c : Nat} {acc : List (List Int)} {k : Int} : ∃ cur, (jL (view c acc) (.inl k)).getD (.int 0) = V.int cur := by
  rw [z1w];cases acc.find? fun m => decide (m.getD 0 0 = k) with
  | none => exact ⟨0, rfl⟩
  | some m => exact ⟨_, rfl⟩
theorem z05 : FnScope ["rows", "spot", "place", "many", "total", "row", "number"] ["rows", "spot", "place"] (zl z0k) := ⟨rfl, rfl, rfl, by decide +kernel, rfl, by decide +kernel, by decide +kernel⟩
theorem z5B (F : Fun K "grouped" "grouped" z0k f fd) (T : Txt K mg) : FnOk P w K mg base CX0 2 f fd ["rows", "spot", "place"] (z27 K) := by
  refine F.ok z05 (fun vs H Q E h => ?_) (fun cdv A outer s H vs Q E hr h => ?_)
  · obtain ⟨a, rs, s, t, rfl, _⟩ := h
    rfl
  obtain ⟨a, rs, s, t, rfl, ha, s0, t0, hrs, lrs, q⟩ := h;have hu := z2X hr;refine ⟨_, (zd (zo (i := 3) z05.nd rfl (Or.inr rfl) z1h)
    (zd (zo (i := 4) z05.nd rfl (Or.inr rfl) z1h)
    (zd (jH PassesOwn.never rfl (zX (pv 0)) (jf (i := 5) z05.nd rfl (Or.inl rfl))
      (zd (zo (i := 6) z05.nd rfl (Or.inl rfl) (zh zz (pv 5) (pv 1) (fun _ _ => rfl)))
      (zd (z4B hu (pv 3) (pv 6) (zp yp (z2T hu (pv 3) (pv 6) za ⟨rfl, rfl, rfl, rfl⟩) za) rfl)
      (zg (z4B hu (pv 4) (pv 6) (zp yp (z2T hu (pv 4) (pv 6) za ⟨rfl, rfl, rfl, rfl⟩) (zh zz (pv 5) (pv 2) (fun _ _ => rfl))) rfl)))))
    (zg (zB (jR rfl (CompSc.of (sx := zl z0k) (NX := ["rows", "spot", "place", "many", "total", "row", "number"]) (fr := ["many", "total"]) (ix := [3, 4]) rfl rfl (by decide +kernel)) (z9g (pv 3)) (fun _ _ _ _ _ _ => jr) (fun _ _ _ _ _ _ => (zI (zb (pv 0) (zk (z6r hu (pv 1) (pv 0) (fun _ _ => rfl)) (zk (z6r hu (pv 2) (pv 0) (fun _ _ => rfl)) ze))))))))))), ?_⟩
  have hlr : (refs rs).length = rs.length := List.length_map _;refine fun mp hmp => ?_
  have m1 := zG hmp (.dK []);have mp1 : upd H mp (.dK []) mp = some (.dK []) := zm;generalize upd H mp (.dK []) = H1 at m1 mp1 ⊢;refine fun tp htp => ?_
  have t1 := zG htp (.dK []);have tp1 : upd H1 tp (.dK []) tp = some (.dK []) := zm;have nmt : mp ≠ tp := zr mp1 htp;have ftp : H tp = none := m1.free htp;have mp2 := t1 _ _ mp1;generalize upd H1 tp (.dK []) = H2 at t1 tp1 mp2 ⊢;have sm := m1.trans t1;refine ⟨_, rfl, a, rfl, ⟨_, SqL.of (sm _ _ ha.1)⟩, jT (K := K) (a := a) (xs := refs rs) (fun i σ H' => ∃ (o5 o6 : Option V), σ = [some (.ref a), some (.int s), some (.int t), some (.ref mp), some (.ref tp), o5, o6] ∧ zF H H' ∧
    H' mp = some (.dK (view 1 (yC ((rs.map (·.2)).take i) s.toNat t.toNat))) ∧ H' tp = some (.dK (view 2 (yC ((rs.map (·.2)).take i) s.toNat t.toNat))) ∧
    ((yC ((rs.map (·.2)).take i) s.toNat t.toNat).map fun m => m.getD 0 0).Nodup ∧ (yC ((rs.map (·.2)).take i) s.toNat t.toNat).length ≤ i ∧ ∀ m ∈ yC ((rs.map (·.2)).take i) s.toNat t.toNat, m.length = 3)
    ⟨none, none, rfl, sm, mp2, tp1, List.nodup_nil, Nat.le_refl _, fun _ z => (by cases z)⟩ (fun i σ H' _ ⟨_, _, _, sm, _⟩ => SqL.of (sm _ _ ha.1)) ?_ ?_⟩
  · rintro i x σ H3 hi ⟨o5, o6, rfl, s3, hm, ht, nd, ln, l3⟩;have hir : i < rs.length := by
      have := (List.getElem?_eq_some_iff.mp hi).1
      rwa [hlr] at this
    rw [jO hir] at hi;cases hi;obtain ⟨hr1, hr2, hr3⟩ := hrs _ (List.getElem_mem hir);have hR := s3 _ _ (ha.2 _ (List.getElem_mem hir)).2;have gt := z4S (s := s.toNat) (t := t.toNat) (z0q hir);generalize yC ((rs.map (·.2)).take i) s.toNat t.toNat = acc at hm ht nd ln l3 gt;obtain ⟨c1, e1⟩ := z7t (c := 1) (acc := acc) (k := rs[i].2.getD s.toNat 0);obtain ⟨c2, e2⟩ := z7t (c := 2) (acc := acc) (k := rs[i].2.getD s.toNat 0);have lv : ∀ c, (view c acc).length < sizeLine := fun c => zH (by unfold view; rw [List.length_map]; omega)
    refine ⟨_, rfl, _, rfl, _, _, _, _, rfl, rfl, SqL.of hR, z55 s0 hr1, ?_⟩;refine ⟨_, rfl, mp, rfl, .inl ⟨_, .inl hm⟩, _, rfl, _, z2m.k (k := .inl (rs[i].2.getD s.toNat 0)) hm, c1, 1, e1, rfl, _, rfl, _, rfl, mp, _, rfl, z5S.k (k := .inl (rs[i].2.getD s.toNat 0)) hm (lv 1), ?_⟩;rw [z58 nd (.inl ⟨rfl, rfl⟩) e1 (v := rs[i].2.getD t.toNat 0)];have hm4 : upd H3 mp (.dK (view 1 (z0F acc (rs[i].2.getD s.toNat 0) (rs[i].2.getD t.toNat 0)))) mp = _ := zm;have ht4 : upd H3 mp (.dK (view 1 (z0F acc (rs[i].2.getD s.toNat 0) (rs[i].2.getD t.toNat 0)))) tp = _ := (zt nmt.symm).trans ht;have s4 : zF H (upd H3 mp (.dK (view 1 (z0F acc (rs[i].2.getD s.toNat 0) (rs[i].2.getD t.toNat 0))))) := s3.put hmp;generalize upd H3 mp (.dK (view 1 (z0F acc (rs[i].2.getD s.toNat 0) (rs[i].2.getD t.toNat 0)))) = H4 at hm4 ht4 s4 ⊢;have hR4 := s4 _ _ (ha.2 _ (List.getElem_mem hir)).2;refine ⟨_, rfl, tp, rfl, .inl ⟨_, .inl ht4⟩, _, rfl, _, z2m.k (k := .inl (rs[i].2.getD s.toNat 0)) ht4, _, rfl, _, rfl, _, _, _, _, rfl, rfl, SqL.of hR4, z55 t0 hr2, c2, _, e2, rfl, _, rfl, _, rfl, tp, _, rfl, z5S.k (k := .inl (rs[i].2.getD s.toNat 0)) ht4 (lv 2), ?_⟩;rw [z58 nd (.inr ⟨rfl, rfl⟩) e2 (v := rs[i].2.getD t.toNat 0)];rw [gt];refine ⟨_, _, rfl, s4.put ftp, by rw [zt nmt]; exact hm4, zm, z6X nd, Nat.le_trans z82 (by omega), z5Z l3⟩
  · rintro σ H3 ⟨o5, o6, rfl, s3, hm, ht, nd, ln, l3⟩;rw [hlr, show (rs.map (·.2)).take rs.length = rs.map (·.2) from List.take_of_length_le (by rw [List.length_map]; exact Nat.le_refl _)] at hm ht nd ln l3;generalize hacc : yC (rs.map (·.2)) s.toNat t.toNat = acc at q hm ht nd ln l3;refine ⟨_, rfl, mp, _, rfl, hm, fun ob => ?_⟩;have lv : (view 1 acc).length = acc.length := by unfold view; rw [List.length_map]
    have sf : zF H (upd H3 mp (.frz ob (.dK (view 1 acc)))) := s3.put hmp;have hm4 : upd H3 mp (.frz ob (.dK (view 1 acc))) mp = some (.frz ob (.dK (view 1 acc))) := zm;have ht4 : upd H3 mp (.frz ob (.dK (view 1 acc))) tp = some (.dK (view 2 acc)) := (zt nmt.symm).trans ht;generalize upd H3 mp (.frz ob (.dK (view 1 acc))) = H4 at sf hm4 ht4 ⊢;refine z5W (fun i ys H' => zF H4 H' ∧ ∃ qs : List (Addr × List Int), ys = refs qs ∧ qs.length = i ∧ (∀ r ∈ qs, H' r.1 = some (.lst (r.2.map V.int))) ∧ qs.map (·.2) = acc.take i) ⟨zF.refl _, [], rfl, rfl, fun _ z => (by cases z), rfl⟩ ?_ ?_ ?_
    · rintro i ys H' hi ⟨sm', qs, rfl, hq, _, _⟩;exact ⟨sm' _ _ hm4, zH (by rw [List.length_map]; omega)⟩
    · rintro i p ys H' hi ⟨sm', qs, rfl, hq, hqa, hqe⟩;have hia : i < acc.length := by
        have := (List.getElem?_eq_some_iff.mp hi).1;omega
      have hp : p = ((.inl (acc[i].getD 0 0) : Key), V.int (acc[i].getD 1 0)) := by
        unfold view at hi;rw [List.getElem?_map, List.getElem?_eq_getElem hia] at hi;exact (Option.some.inj hi).symm
      subst hp;have v1 : ∀ c, jL (view c acc) (.inl (acc[i].getD 0 0)) = some (V.int (acc[i].getD c 0)) := fun c => by
        rw [z1w, z3V nd (List.getElem_mem hia)]
        rfl
      have g1 : z2m H' mp (.int (acc[i].getD 0 0)) (some (V.int (acc[i].getD 1 0))) := .inl ⟨view 1 acc, .inl (acc[i].getD 0 0), .inr ⟨ob, sm' _ _ hm4⟩, rfl, (v1 1).symm⟩;have g2 : z2m H' tp (.int (acc[i].getD 0 0)) (some (V.int (acc[i].getD 2 0))) := .inl ⟨view 2 acc, .inl (acc[i].getD 0 0), .inl (sm' _ _ ht4), rfl, (v1 2).symm⟩;refine ⟨_, rfl, _, rfl, _, rfl, mp, _, rfl, g1, _, rfl, _, rfl, tp, _, rfl, g2, zq (by show 3 ≤ 1000000; decide), fun l hl => ?_⟩;have e3 := three (l3 _ (List.getElem_mem hia));have n1 := zG hl (.lst [V.int (acc[i].getD 0 0), V.int (acc[i].getD 1 0), V.int (acc[i].getD 2 0)]);refine ⟨sm'.trans n1, qs ++ [(l, acc[i])], by simp [refs], by rw [List.length_append, hq]; rfl, fun r m => ?_, ?_⟩
      · rcases List.mem_append.mp m with m | m
        · exact n1 _ _ (hqa r m)
        · rw [List.mem_singleton.mp m]
          show upd H' l _ l = some (.lst (acc[i].map V.int))
          rw [zm, e3]
          rfl
      · rw [List.map_append, hqe, List.take_add_one, List.getElem?_eq_getElem hia]
        rfl
    · rintro ys H' ⟨sm', qs, rfl, hq, hqa, hqe⟩ p hp;have n1 := zG hp (.lst (refs qs));refine q p qs _ ((sf.trans sm').trans n1) ⟨zm, fun r m => ⟨zr (hqa r m) hp, n1 _ _ (hqa r m)⟩⟩ ?_;rw [hqe, lv, List.take_length]

noncomputable def z7I (s : Nat) (rows L : List (List Int)) : Prop := ∃ is : List Nat, is.Perm (List.range rows.length) ∧ L = is.map (fun i => rows.getD i []) ∧
  is.Pairwise fun i j => (rows.getD i []).getD s 0 < (rows.getD j []).getD s 0 ∨ ((rows.getD i []).getD s 0 = (rows.getD j []).getD s 0 ∧ i < j)
noncomputable def z2Q : Pos := match yt km with
  | [.Return (some (.Call _ _ [⟨_, .Lambda _ _ _ p, _⟩] _)) _] => p
  | _ => ⟨0, 0, 0, 0⟩
noncomputable abbrev z8j : Str := Str.ofString "in_order" ++ ".<locals>." ++ "<lambda>"
noncomputable def z4z (K : PySem.W.Frag) (Tb : Addr) : Sp := fun vs H Q _ => ∃ (a : Addr) (rs : List (Addr × List Int)) (s : Int), vs = [.ref a, .int s] ∧ RowsAt H a rs ∧ 0 ≤ s ∧ (∀ r ∈ rs, s.toNat < r.2.length ∧ r.2.length ≤ 100) ∧ rs.length ≤ 63 ∧ y0 H Tb z2Q z8j ∧
  ∀ (p : Addr) (qs : List (Addr × List Int)) (H' : Hp), Kp Tb H H' → y0 H' Tb z2Q z8j → RowsAt H' p qs → z7I s.toNat (rs.map (·.2)) (qs.map (·.2)) → Q (.ref p) H'
theorem z5n : FnScope ["rows", "spot"] ["rows", "spot"] (zl km) := ⟨rfl, rfl, rfl, by decide +kernel, rfl, by decide +kernel, by decide +kernel⟩
theorem z5c {Tb c : Addr} (F : Fun K "in_order" "in_order" km f fd) (T : Txt K mg) (hc : fd.code = .ref c) (C : PySem.W.CodeHd base c Tb) (B : base.BuiltinsAt mg Tb) : FnOk P w K mg base CX0 3 f fd ["rows", "spot"] (z4z K Tb) := by
  refine F.okC z5n (fun vs H Q E h => ?_) (fun A outer s H vs Q E hr h => ?_)
  · obtain ⟨a, rs, s, rfl, _⟩ := h
    rfl
  obtain ⟨a, rs, s, rfl, ha, s0, hrs, lrs, hL, q⟩ := h;refine ⟨_, (zg (zB (z6e (T := Tb) (c := c) rfl hr rfl T.sorted (pv 0) hc C B (CompSc.of (x := "row") (sx := zl km) (NX := ["rows", "spot"]) (fr := ["spot"]) (ix := [1]) rfl rfl (by decide +kernel)) (fun _ _ _ _ _ => (zh (yj (K := K) rfl) (pv 0) (pv 1) (fun _ _ => rfl)))))), ?_⟩;have hlr : (refs rs).length = rs.length := List.length_map _;have nT : ∀ r ∈ rs, r.1 ≠ Tb := fun r m => hL.ne (ha.2 r m).2 fun ps z => by cases z
  refine ⟨_, rfl, a, refs rs, rs.map (fun r => r.2.getD s.toNat 0), rfl, .inl ha.1, by omega, by rw [List.length_map, List.length_map], hL, fun H2 k2 i v hv => ?_, fun c' H2 D is k2 lin nD pm pw => ?_⟩
  · have hir : i < rs.length := by
      have := (List.getElem?_eq_some_iff.mp hv).1
      rwa [hlr] at this
    rw [jO hir] at hv;cases hv;have hR := k2 _ _ (nT _ (List.getElem_mem hir)) (ha.2 _ (List.getElem_mem hir)).2;refine ⟨_, rfl, _, rfl, rs[i].1, _, _, _, rfl, rfl, SqL.of hR, z55 s0 (hrs _ (List.getElem_mem hir)).1, ?_, rfl⟩;rw [List.getD_eq_getElem?_getD (l := rs.map _), List.getElem?_map, List.getElem?_eq_getElem hir]
    rfl
  · rw [hlr] at pm;have mem : ∀ i ∈ is, i < rs.length := fun i hi => List.mem_range.mp (pm.mem_iff.mp hi)
    have n1 := zG nD (.lst (is.map fun i => (refs rs).getD i .non));have e1 : (is.map fun i => (refs rs).getD i .non) = refs (is.map fun i => rs.getD i (0, [])) := by
      unfold refs;rw [List.map_map];refine List.map_congr_left fun i hi => ?_
      have hir := mem i hi
      show _ = V.ref (rs.getD i (0, [])).1
      rw [List.getD_eq_getElem?_getD, List.getElem?_map, List.getElem?_eq_getElem hir, List.getD_eq_getElem?_getD, List.getElem?_eq_getElem hir]
      rfl
    have rows : RowsAt (upd H2 D (.lst (is.map fun i => (refs rs).getD i .non))) D (is.map fun i => rs.getD i (0, [])) := by
      refine ⟨by rw [zm, e1], fun r m => ?_⟩;obtain ⟨i, hi, rfl⟩ := List.mem_map.mp m;have hir := mem i hi;have eg : rs.getD i (0, []) = rs[i] := by rw [List.getD_eq_getElem?_getD, List.getElem?_eq_getElem hir]; rfl
      rw [eg];have hR := k2 _ _ (nT _ (List.getElem_mem hir)) (ha.2 _ (List.getElem_mem hir)).2;exact ⟨zr hR nD, n1 _ _ hR⟩
    refine q D _ _ (k2.trans n1.kp) (y0.same (.inr ⟨c', lin⟩) n1) rows ⟨is, by rw [List.length_map]; exact pm, ?_, ?_⟩
    · rw [List.map_map];refine List.map_congr_left fun i hi => ?_
      have hir := mem i hi
      show (rs.getD i (0, [])).2 = _
      rw [z1t hir, List.getD_eq_getElem?_getD, List.getElem?_eq_getElem hir]
      rfl
    · refine List.pairwise_iff_getElem.mpr fun i j hi hj hij => ?_
      have h0 := List.pairwise_iff_getElem.mp pw i j hi hj hij;have key : ∀ m, m < rs.length → (rs.map (fun r => r.2.getD s.toNat 0)).getD m 0 = ((rs.map (·.2)).getD m []).getD s.toNat 0 := fun m hm => by
        rw [z1t hm, List.getD_eq_getElem?_getD, List.getElem?_map, List.getElem?_eq_getElem hm]
        rfl
      unfold Rk at h0;dsimp only at h0;rw [key _ (mem _ (List.getElem_mem hi)), key _ (mem _ (List.getElem_mem hj))] at h0;exact h0

noncomputable def kids : Qn → List Qn
  | .table _ => []
  | .pick _ q => [q]
  | .cols _ q => [q]
  | .pair q r => [q, r]
  | .join _ _ q r => [q, r]
  | .both q r => [q, r]
  | .first _ q => [q]
  | .group _ _ _ _ q => [q]
  | .sort _ q => [q]
noncomputable def post : Qn → List Qn
  | .table n => [.table n]
  | .pick c q => post q ++ [.pick c q]
  | .cols ns q => post q ++ [.cols ns q]
  | .pair q r => post q ++ post r ++ [.pair q r]
  | .join a b q r => post q ++ post r ++ [.join a b q r]
  | .both q r => post q ++ post r ++ [.both q r]
  | .first n q => post q ++ [.first n q]
  | .group a b n s q => post q ++ [.group a b n s q]
  | .sort a q => post q ++ [.sort a q]
theorem z00 (q : Qn) : post q = (kids q).flatMap post ++ [q] := by cases q <;> simp [post, kids]
theorem z3T (q : Qn) : q ∈ post q := by rw [z00]; exact List.mem_append_right _ (List.mem_singleton.mpr rfl)
theorem z7M (q : Qn) : 1 ≤ (post q).length := by rw [z00, List.length_append]; simp
noncomputable def yV (H : Hp) : List Qn → List V → Prop
  | [], vs => vs = []
  | q :: qs, vs => ∃ v ws, vs = v :: ws ∧ QAt H q v ∧ yV H qs ws
theorem yV.same {H H' : Hp} (e : zF H H') : ∀ {qs : List Qn} {vs : List V}, yV H qs vs → yV H' qs vs
  | [], _, h => h
  | _ :: _, _, ⟨v, ws, e1, h1, h2⟩ => ⟨v, ws, e1, h1.same e, h2.same e⟩
theorem yV.mono {H H' : Hp} (t : ∀ b xs, H b = some (.tup xs) → H' b = some (.tup xs)) : ∀ {qs : List Qn} {vs : List V}, yV H qs vs → yV H' qs vs
  | [], _, h => h
  | _ :: _, _, ⟨v, ws, e1, h1, h2⟩ => ⟨v, ws, e1, h1.mono t, h2.mono t⟩
theorem yV.len {H : Hp} : ∀ {qs : List Qn} {vs : List V}, yV H qs vs → vs.length = qs.length
  | [], _, h => by rw [show _ = [] from h]; rfl
  | _ :: qs, _, ⟨v, ws, e1, h1, h2⟩ => by rw [e1, List.length_cons, List.length_cons, h2.len]
theorem yV.app {H : Hp} : ∀ {qs rs : List Qn} {vs ws : List V}, yV H qs vs → yV H rs ws → yV H (qs ++ rs) (vs ++ ws)
  | [], _, _, _, h, g => by rw [show _ = [] from h]; exact g
  | _ :: _, _, _, _, ⟨v, us, e1, h1, h2⟩, g => ⟨v, us ++ _, by rw [e1]; rfl, h1, h2.app g⟩
theorem yV.rev {H : Hp} : ∀ {qs : List Qn} {vs : List V}, yV H qs vs → yV H qs.reverse vs.reverse
  | [], _, h => by rw [show _ = [] from h]; rfl
  | q :: qs, _, ⟨v, us, e1, h1, h2⟩ => by
    rw [e1, List.reverse_cons, List.reverse_cons];exact h2.rev.app ⟨v, [], rfl, h1, rfl⟩
theorem yV.at {H : Hp} : ∀ {qs : List Qn} {vs : List V} {i : Nat} {q : Qn}, yV H qs vs → qs[i]? = some q → ∃ v, vs[i]? = some v ∧ QAt H q v
  | q :: qs, _, 0, _, ⟨v, us, e1, h1, h2⟩, e => by cases e; exact ⟨v, by rw [e1]; rfl, h1⟩
  | q :: qs, _, i + 1, _, ⟨v, us, e1, h1, h2⟩, e => by
    obtain ⟨u, hu, z⟩ := h2.at (i := i) (by simpa using e);exact ⟨u, by rw [e1]; simpa using hu, z⟩
theorem yV.at' {H : Hp} : ∀ {qs : List Qn} {vs : List V} {i : Nat} {v : V}, yV H qs vs → vs[i]? = some v → ∃ q, qs[i]? = some q ∧ QAt H q v
  | [], _, i, v, h, e => by rw [show _ = [] from h] at e; cases e
  | q :: qs, _, 0, _, ⟨v, us, e1, h1, h2⟩, e => by rw [e1] at e; cases e; exact ⟨q, rfl, h1⟩
  | q :: qs, _, i + 1, _, ⟨v, us, e1, h1, h2⟩, e => by
    rw [e1] at e;obtain ⟨u, hu, z⟩ := h2.at' (i := i) (by simpa using e);exact ⟨u, by simpa using hu, z⟩
noncomputable def z1E (K : PySem.W.Frag) : Sp := fun vs H Q _ => ∃ (v : V) (q : Qn), vs = [v] ∧ QAt H q v ∧ ∀ (l : Addr) (kv : List V) (H' : Hp), zF H H' → H l = none → H' l = some (.lst kv) → yV H' (kids q) kv → Q (.ref l) H'
noncomputable def zaF : List V := [.str "pair", .str "join", .str "both"]
theorem z8d {H : Hp} {q : Qn} {v : V} (h : QAt H q v) : (∃ n p, q = .table n ∧ v = .ref p ∧ H p = some (.tup [.str "table", .str n])) ∨
    (∃ r p w xs y, kids q = [r] ∧ v = .ref p ∧ H p = some (.tup (.str w :: (xs ++ [y]))) ∧ QAt H r y ∧ inV (.str w) zaF = false ∧ w ≠ "table") ∨
    (∃ r s p w xs x y, kids q = [r, s] ∧ v = .ref p ∧ H p = some (.tup (.str w :: (xs ++ [x, y]))) ∧ QAt H r x ∧ QAt H s y ∧ inV (.str w) zaF = true ∧ w ≠ "table") := by
  cases q with
  | table n => obtain ⟨p, e, h⟩ := h; exact .inl ⟨n, p, rfl, e, h⟩
  | pick c r => obtain ⟨p, x, y, e, h, _, h2⟩ := h; exact .inr (.inl ⟨r, p, "pick", [x], y, rfl, e, h, h2, by decide +kernel, by decide +kernel⟩)
  | cols ns r => obtain ⟨p, x, y, e, h, _, h2⟩ := h; exact .inr (.inl ⟨r, p, "cols", [.ref x], y, rfl, e, h, h2, by decide +kernel, by decide +kernel⟩)
  | pair r s => obtain ⟨p, x, y, e, h, h1, h2⟩ := h; exact .inr (.inr ⟨r, s, p, "pair", [], x, y, rfl, e, h, h1, h2, by decide +kernel, by decide +kernel⟩)
  | join a b r s => obtain ⟨p, x, y, e, h, h1, h2⟩ := h; exact .inr (.inr ⟨r, s, p, "join", [.str a, .str b], x, y, rfl, e, h, h1, h2, by decide +kernel, by decide +kernel⟩)
  | both r s => obtain ⟨p, x, y, e, h, h1, h2⟩ := h; exact .inr (.inr ⟨r, s, p, "both", [], x, y, rfl, e, h, h1, h2, by decide +kernel, by decide +kernel⟩)
  | first n r => obtain ⟨p, y, e, h, h2⟩ := h; exact .inr (.inl ⟨r, p, "first", [.int n], y, rfl, e, h, h2, by decide +kernel, by decide +kernel⟩)
  | group a b n s r => obtain ⟨p, y, e, h, h2⟩ := h; exact .inr (.inl ⟨r, p, "group", [.str a, .str b, .str n, .str s], y, rfl, e, h, h2, by decide +kernel, by decide +kernel⟩)
  | sort a r => obtain ⟨p, y, e, h, h2⟩ := h; exact .inr (.inl ⟨r, p, "sort", [.str a], y, rfl, e, h, h2, by decide +kernel, by decide +kernel⟩)
theorem z8A (v : V) (xs : List V) (y : V) : atI (v :: (xs ++ [y])) (-1) = some y := z8y (v :: xs) y
theorem z9K (v : V) (xs : List V) (x y : V) : atI (v :: (xs ++ [x, y])) (-2) = some x := by
  have e : v :: (xs ++ [x, y]) = (v :: xs) ++ [x, y] := rfl;rw [e];generalize v :: xs = l;unfold atI ixN;rw [if_neg (by decide), if_pos (by rw [List.length_append]; simp; omega)];have h1 : ((((l ++ [x, y]).length : Nat) : Int) + (-2)).toNat = l.length := by rw [List.length_append]; simp; omega
  simp only [Option.bind_some]
  first | rw [h1] | (rw [show ((-2 : Int) + (((l ++ [x, y]).length : Nat) : Int)).toNat = l.length by rw [List.length_append]; simp; omega])
  simp
theorem z19 : FnScope ["question"] ["question"] (zl yh) := ⟨rfl, rfl, rfl, by decide +kernel, rfl, by decide +kernel, by decide +kernel⟩
theorem z1c (F : Fun K "straight_within" "straight_within" yh f fd) (T : Txt K mg) (R : TxtP K mg) : FnOk P w K mg base CX0 1 f fd ["question"] (z1E K) := by
  refine F.ok z19 (fun vs H Q E h => ?_) (fun cdv A outer s H vs Q E hr h => ?_)
  · obtain ⟨v, q, rfl, _⟩ := h
    rfl
  obtain ⟨v, q, rfl, hq, fin⟩ := h;obtain ⟨cT, hcT, sT⟩ := R.two;refine ⟨_, (zd (zO (zw zT (zh zj (pv 0) za (fun _ _ => rfl)) zn (zC _))
      (zg (zB (zI ze)))
      zE)
    (zd (zO (zw z0P (zh zj (pv 0) za (fun _ _ => rfl)) (z6K (v := .ref cT) rfl hcT rfl) (by with_unfolding_all rfl))
      (zg (zB (zI (zk (zh zj (pv 0) (z3G z1K za) (fun _ _ => rfl)) (zk (zh zj (pv 0) (z3G z1K za) (fun _ _ => rfl)) ze)))))
      zE)
    (zg (zB (zI (zk (zh zj (pv 0) (z3G z1K za) (fun _ _ => rfl)) ze)))))), ?_⟩
  have l0 : ∀ n : Nat, n ≤ 10 → n ≤ sizeLine := fun n h => zq (by omega)
  rcases z8d hq with ⟨n, p, rfl, rfl, hp⟩ | ⟨r, p, w, xs, y, hk, rfl, hp, hy, hin, hw⟩ | ⟨r, s, p, w, xs, x, y, hk, rfl, hp, hx, hy, hin, hw⟩
  · refine ⟨_, rfl, p, _, _, _, rfl, rfl, SqT.of hp, zQ, rfl, _, rfl, ?_⟩;refine ifT (by rw [yk]; decide +kernel) ?_;refine ⟨l0 0 (by decide), fun l hl => ?_⟩;refine zf (upd _ l _) rfl hl fun H1 n1 x1 => ?_
    exact fin l _ H1 n1 hl x1 rfl
  · refine ⟨_, rfl, p, _, _, _, rfl, rfl, SqT.of hp, zQ, rfl, _, rfl, ?_⟩;refine ifF (by rw [yk]; exact decide_eq_false hw) ?_;refine ⟨_, rfl, p, _, _, _, rfl, rfl, SqT.of hp, zQ, cT, _, rfl, .inr (sT H), rfl, rfl, _, rfl, ?_⟩;refine ifF hin ?_;refine ⟨_, rfl, _, rfl, p, _, _, _, rfl, rfl, SqT.of hp, z8A _ _ _, l0 1 (by decide), fun l hl => ?_⟩;refine zf (upd _ l _) rfl hl fun H1 n1 x1 => ?_
    exact fin l _ H1 n1 hl x1 (by rw [hk]; exact ⟨y, [], rfl, hy.same n1, rfl⟩)
  · refine ⟨_, rfl, p, _, _, _, rfl, rfl, SqT.of hp, zQ, rfl, _, rfl, ?_⟩;refine ifF (by rw [yk]; exact decide_eq_false hw) ?_;refine ⟨_, rfl, p, _, _, _, rfl, rfl, SqT.of hp, zQ, cT, _, rfl, .inr (sT H), rfl, rfl, _, rfl, ?_⟩;refine ifT hin ?_;refine ⟨_, rfl, _, rfl, p, _, _, _, rfl, rfl, SqT.of hp, z9K _ _ _ _, _, rfl, _, rfl, p, _, _, _, rfl, rfl, SqT.of hp, by have := z8A (.str w) (xs ++ [x]) y; rwa [List.append_assoc] at this, l0 2 (by decide), fun l hl => ?_⟩;refine zf (upd _ l _) rfl hl fun H1 n1 x1 => ?_
    exact fin l _ H1 n1 hl x1 (by rw [hk]; exact ⟨x, [y], rfl, hx.same n1, y, [], rfl, hy.same n1, rfl⟩)

theorem z4b {H : Hp} {l : Addr} {xs : List V} {o : HO} (h : H l = some (.lst xs)) : ∀ b ys, H b = some (.tup ys) → upd H l o b = some (.tup ys) := fun b ys e => by
  rw [zt (z2f e h (by intro z; cases z))];exact e
noncomputable abbrev pre (r : Qn) : List Qn := (post r).reverse
theorem z7N (r : Qn) : pre r = r :: (kids r).reverse.flatMap pre := by
  unfold pre;rw [z00, List.reverse_append, List.reverse_flatMap]
  rfl
noncomputable def wtL (ws : List Qn) : Nat := (ws.map fun r => (post r).length).sum
theorem z6k (a b : List Qn) : wtL (a ++ b) = wtL a + wtL b := by unfold wtL; rw [List.map_append, List.sum_append]
theorem z4m : ∀ ws : List Qn, ws.length ≤ wtL ws
  | [] => Nat.le_refl _
  | q :: ws => by
    have := z4m ws;have := z7M q
    show ws.length + 1 ≤ (post q).length + wtL ws
    omega
theorem z6s : ∀ ws : List Qn, (ws.reverse.flatMap pre).length = wtL ws
  | [] => rfl
  | q :: ws => by
    rw [List.reverse_cons, List.flatMap_append, List.length_append, z6s ws]
    show wtL ws + (pre q ++ []).length = (post q).length + wtL ws
    rw [List.append_nil, List.length_reverse, Nat.add_comm]
theorem z8K (r : Qn) : (post r).length = wtL (kids r) + 1 := by
  rw [z00, List.length_append, List.length_flatMap]
  rfl
theorem yV.snoc {H : Hp} : ∀ {qs : List Qn} {vs : List V}, yV H qs vs → vs ≠ [] → ∃ gs g ws v, qs = gs ++ [g] ∧ vs = ws ++ [v] ∧ yV H gs ws ∧ QAt H g v
  | [], _, h, n => absurd h n
  | [q], _, ⟨v, us, e1, h1, h2⟩, _ => ⟨[], q, [], v, rfl, by rw [e1, show us = [] from h2]; rfl, rfl, h1⟩
  | q :: r :: qs, _, ⟨v, us, e1, h1, h2⟩, _ => by
    obtain ⟨gs, g, ws, v', e2, e3, h3, h4⟩ := h2.snoc (by intro z; have := h2.len; rw [z] at this; cases this);exact ⟨q :: gs, g, v :: ws, v', by rw [e2]; rfl, by rw [e1, e3]; rfl, ⟨v, ws, rfl, h1, h3⟩, h4⟩
noncomputable def z4l (K : PySem.W.Frag) : Sp := fun vs H Q _ => ∃ (v : V) (q : Qn), vs = [v] ∧ QAt H q v ∧ (post q).length ≤ 100000 ∧ ∀ (l : Addr) (kv : List V) (H' : Hp), zF H H' → H l = none → H' l = some (.lst kv) → yV H' (post q) kv → Q (.ref l) H'
theorem yT : FnScope ["question", "places", "waiting", "place"] ["question"] (zl ku) := ⟨rfl, rfl, rfl, by decide +kernel, rfl, by decide +kernel, by decide +kernel⟩
theorem z2M (F : Fun K "inner_first" "inner_first" ku f fd) (T : Txt K mg) (Cstraight_within : Kn P w K mg base 1 "straight_within" ["question"] (z1E K)) : FnOk P w K mg base CX0 2 f fd ["question"] (z4l K) := by
  refine F.ok yT (fun vs H Q E h => ?_) (fun cdv A outer s H vs Q E hr h => ?_)
  · obtain ⟨v, q, rfl, _⟩ := h
    rfl
  obtain ⟨v, q, rfl, hq, hsz, fin⟩ := h;refine ⟨_, (zd (zo (i := 1) yT.nd rfl (Or.inl rfl) (zI ze))
    (zd (zo (i := 2) yT.nd rfl (Or.inl rfl) (zI (zb (pv 0) ze)))
    (zd (z0M PassesOwn.never (z3g (pv 2) (fun _ => rfl))
      (zd (zo (i := 3) yT.nd rfl (Or.inl rfl) (z4s PySem.F.plainAttrs_list PySem.F.slot_list_pop PySem.F.type_list_pop z4d (pv 2)))
      (zd (jc (jF PySem.F.plainAttrs_list PySem.F.slot_list_append PySem.F.type_list_append jz (pv 1) (zb (pv 3) ze)))
      (zg (jc (jF PySem.F.plainAttrs_list PySem.F.slot_list_extend PySem.F.type_list_extend z47 (pv 2) (zV (zy Cstraight_within hr.m rfl (zb (pv 3) ze)) ze)))))))
    (zg (zB (z66 rfl rfl T.list rfl T.reversed (pv 1))))))), ?_⟩
  refine ⟨zq (by show 0 ≤ _; decide), fun pp hpp => ?_⟩;refine zf (upd _ pp _) rfl hpp fun H1 n1 x1 => ?_
  refine ⟨_, rfl, zq (by show 1 ≤ _; decide), fun wp hwp => ?_⟩;have npw : pp ≠ wp := zr x1 hwp;have fwp : H wp = none := n1.free hwp;refine zf (upd _ wp _) rfl hwp fun H2 n2 x2 => ?_
  have s2 := n1.trans n2;refine z5f ?_;dsimp only;refine z6m ?_;refine z1p (fun m σ H' => ∃ (ps ws : List Qn) (pv wv : List V) (o3 : Option V), m = wtL ws ∧ σ = [some v, some (.ref pp), some (.ref wp), o3] ∧ zF H H' ∧ H' pp = some (.lst pv) ∧ H' wp = some (.lst wv) ∧ yV H' ps pv ∧ yV H' ws wv ∧ ps ++ ws.reverse.flatMap pre = pre q) (wtL [q])
    ⟨[], [q], [], [v], none, rfl, rfl, s2, n2 _ _ x1, x2, rfl, ⟨v, [], rfl, hq.same s2, rfl⟩, by simp⟩ ?_
  rintro m σ H3 ⟨ps, ws, pv, wv, o3, rfl, rfl, s3, hp3, hw3, qp, qw, hpre⟩;have hlen : ps.length + wtL ws = (post q).length := by
    have := congrArg List.length hpre;rw [List.length_append, z6s, List.length_reverse] at this;exact this
  refine ⟨_, rfl, _, .inl ⟨_, SqL.of hw3, rfl⟩, ?_⟩;by_cases hne : wv = []
  · subst hne;refine ifF (by rfl) ?_;have ew : ws = [] := List.length_eq_zero_iff.mp qw.len.symm;subst ew;have ep : ps = pre q := by simpa using hpre
    refine ⟨_, rfl, pp, _, rfl, SqL.of hp3, fun l hl => ?_⟩;refine zf (upd _ l _) rfl hl fun H4 n4 x4 => ?_
    refine fin l _ H4 (s3.trans n4) (s3.free hl) x4 ?_;have := (qp.same n4).rev;rw [ep, List.reverse_reverse] at this;exact this
  · obtain ⟨gs, g, us, gv, rfl, rfl, qg, hg⟩ := qw.snoc hne;refine ifT (by simp) ?_;refine ⟨_, fun σ' H' z => z, ?_⟩;refine ⟨_, rfl, .inl ⟨rfl, _, SqL.of hw3⟩, wp, _, gv, rfl, rfl, hw3, z2E _ _, ?_⟩;rw [List.dropLast_concat];have tm := z4b (o := .lst us) hw3;have s4 : zF H (upd H3 wp (.lst us)) := s3.put fwp;have hp4 : upd H3 wp (.lst us) pp = some (.lst pv) := (zt npw).trans hp3;have hw4 : upd H3 wp (.lst us) wp = some (.lst us) := zm;have qp4 := qp.mono tm;have qg4 := qg.mono tm;have hg4 := hg.mono tm;generalize upd H3 wp (.lst us) = H4 at tm s4 hp4 hw4 qp4 qg4 hg4 ⊢;have ew : wtL (gs ++ [g]) = wtL gs + (post g).length := by rw [z6k]; rfl
    rw [ew] at hlen;have lp := qp4.len;have lg := qg4.len;have lw := z4m gs;have lk := z4m (kids g);have lkk := z8K g;refine ⟨_, rfl, .inl ⟨rfl, _, SqL.of hp4⟩, _, rfl, pp, _, _, rfl, rfl, hp4, zH (by omega), ?_⟩;have tm5 := z4b (o := .lst (pv ++ [gv])) hp4;have s5 : zF H (upd H4 pp (.lst (pv ++ [gv]))) := s4.put hpp;have hp5 : upd H4 pp (.lst (pv ++ [gv])) pp = some (.lst (pv ++ [gv])) := zm;have hw5 : upd H4 pp (.lst (pv ++ [gv])) wp = some (.lst us) := (zt npw.symm).trans hw4;have qp5 : yV (upd H4 pp (.lst (pv ++ [gv]))) (ps ++ [g]) (pv ++ [gv]) := (qp4.mono tm5).app ⟨gv, [], rfl, hg4.mono tm5, rfl⟩;have qg5 := qg4.mono tm5;have hg5 := hg4.mono tm5;generalize upd H4 pp (.lst (pv ++ [gv])) = H5 at s5 hp5 hw5 qp5 qg5 hg5 ⊢;refine ⟨_, rfl, .inl ⟨rfl, _, SqL.of hw5⟩, _, rfl, _, g, rfl, hg5, fun l kv H6 n6 fl x6 qk => ?_⟩;have hw6 := n6 _ _ hw5;have lkv := qk.len;refine ⟨wp, l, _, _, rfl, rfl, hw6, x6, zq (by omega), ?_⟩;have tm6 := z4b (o := .lst (us ++ kv)) hw6;refine ⟨wtL (gs ++ kids g), by rw [ew, z6k]; omega, ps ++ [g], gs ++ kids g, pv ++ [gv], us ++ kv, _, rfl, rfl, (s5.trans n6).put fwp, by rw [zt npw]; exact n6 _ _ hp5, zm, (qp5.same n6).mono tm6, ((qg5.same n6).app qk).mono tm6, ?_⟩;rw [List.reverse_append] at hpre;rw [List.reverse_append, List.flatMap_append, ← hpre]
    show ps ++ [g] ++ _ = ps ++ ([g] ++ gs.reverse).flatMap pre
    rw [List.flatMap_append, List.flatMap_cons, z7N g];simp

noncomputable def Nt (H H' : Hp) : Prop := ∀ b o, H b = some o → (∀ ps, o ≠ .tbl ps) → H' b = some o
theorem Nt.refl (H : Hp) : Nt H H := fun _ _ e _ => e
theorem Nt.trans {H H1 H2 : Hp} (a : Nt H H1) (b : Nt H1 H2) : Nt H H2 := fun x o e n => b x o (a x o e n) n
theorem Nt.of {H H' : Hp} (h : zF H H') : Nt H H' := fun b o e _ => h b o e
theorem Nt.lst {H H' : Hp} {b : Addr} {xs : List V} (h : Nt H H') (e : H b = some (.lst xs)) : H' b = some (.lst xs) := h b _ e fun _ z => by cases z
theorem Nt.tup {H H' : Hp} {b : Addr} {xs : List V} (h : Nt H H') (e : H b = some (.tup xs)) : H' b = some (.tup xs) := h b _ e fun _ z => by cases z
theorem z0p {H : Hp} {d : Addr} {a b : HO} : upd (upd H d a) d b = upd H d b := by
  funext x
  by_cases e : x = d
  · subst e; rw [zm, zm]
  · rw [zt e, zt e, zt e]
theorem z5r {H : Hp} {c d : Addr} {a b : HO} (n : c ≠ d) : upd (upd H d a) c b = upd (upd H c b) d a := by
  funext x
  by_cases e : x = d
  · subst e; rw [zt n.symm, zm, zm]
  · rw [zt (H := upd H c b) e];by_cases e2 : x = c
    · subst e2; rw [zm, zm]
    · rw [zt e2, zt e2, zt e]
theorem z8q {H : Hp} {d : Addr} {o : HO} (h : H d = some o) : upd H d o = H := by
  funext x
  by_cases e : x = d
  · subst e; rw [zm, h]
  · rw [zt e]
theorem z51 {H H2 : Hp} {d : Addr} (h : zF H H2) (hd : H d = none) : zF H (hid H2 d) := fun b o e => by
  rw [z0D (fun z => by rw [z, hd] at e; cases e)]; exact h b o e
theorem z6A {H : Hp} {d : Addr} {o : HO} (h : H d = some o) : upd (hid H d) d o = H := by
  funext x
  by_cases e : x = d
  · subst e; rw [zm, h]
  · rw [zt e, z0D e]
noncomputable def kY (Res : Qn → V → Hp → Prop) (H : Hp) : List Qn → List V → Prop
  | [], vs => vs = []
  | q :: qs, vs => ∃ v ws, vs = v :: ws ∧ Res q v H ∧ kY Res H qs ws
section
variable {Res : Qn → V → Hp → Prop} {H H' : Hp}
theorem kY.imp (h : ∀ r u, Res r u H → Res r u H') : ∀ {qs : List Qn} {vs : List V}, kY Res H qs vs → kY Res H' qs vs
  | [], _, z => z
  | _ :: _, _, ⟨v, ws, e1, h1, h2⟩ => ⟨v, ws, e1, h _ _ h1, h2.imp h⟩
theorem kY.len : ∀ {qs : List Qn} {vs : List V}, kY Res H qs vs → vs.length = qs.length
  | [], _, h => by rw [show _ = [] from h]; rfl
  | _ :: qs, _, ⟨v, ws, e1, h1, h2⟩ => by rw [e1, List.length_cons, List.length_cons, h2.len]
theorem kY.app : ∀ {qs rs : List Qn} {vs ws : List V}, kY Res H qs vs → kY Res H rs ws → kY Res H (qs ++ rs) (vs ++ ws)
  | [], _, _, _, h, g => by rw [show _ = [] from h]; exact g
  | _ :: _, _, _, _, ⟨v, us, e1, h1, h2⟩, g => ⟨v, us ++ _, by rw [e1]; rfl, h1, h2.app g⟩
theorem kY.cut : ∀ {qs rs : List Qn} {vs ws : List V}, kY Res H (qs ++ rs) (vs ++ ws) → vs.length = qs.length → kY Res H qs vs ∧ kY Res H rs ws
  | [], _, vs, _, h, e => by
    have : vs = [] := List.length_eq_zero_iff.mp e;subst this;exact ⟨rfl, h⟩
  | _ :: _, _, [], _, _, e => by cases e
  | q :: qs, rs, v :: vs, ws, ⟨u, us, e1, h1, h2⟩, e => by
    obtain ⟨rfl, rfl⟩ := List.cons.inj e1;obtain ⟨a, b⟩ := h2.cut (by simpa using e);exact ⟨⟨v, vs, rfl, h1, a⟩, b⟩
end
inductive Runs : List Qn → List Qn → List Qn → Prop
  | nil (S : List Qn) : Runs S [] S
  | cons {S : List Qn} {r : Qn} {l S' : List Qn} : Runs (S ++ [r]) l S' → Runs (S ++ kids r) (r :: l) S'
theorem Runs.app {S1 l S2 l' S3 : List Qn} (h : Runs S1 l S2) (g : Runs S2 l' S3) : Runs S1 (l ++ l') S3 := by
  induction h with
  | nil S => exact g
  | cons h ih => exact .cons (ih g)
theorem jK : ∀ (q : Qn) (S : List Qn), Runs S (post q) (S ++ [q])
  | .table n, S => by have := Runs.cons (S := S) (r := .table n) (.nil (S ++ [.table n])); simpa [kids, post] using this
  | .pick c q, S => (jK q S).app (.cons (r := .pick c q) (.nil _))
  | .cols ns q, S => (jK q S).app (.cons (r := .cols ns q) (.nil _))
  | .pair q r, S => ((jK q S).app (jK r _)).app (by rw [List.append_assoc]; exact .cons (r := .pair q r) (.nil _))
  | .join a b q r, S => ((jK q S).app (jK r _)).app (by rw [List.append_assoc]; exact .cons (r := .join a b q r) (.nil _))
  | .both q r, S => ((jK q S).app (jK r _)).app (by rw [List.append_assoc]; exact .cons (r := .both q r) (.nil _))
  | .first n q, S => (jK q S).app (.cons (r := .first n q) (.nil _))
  | .group a b n s q, S => (jK q S).app (.cons (r := .group a b n s q) (.nil _))
  | .sort a q, S => (jK q S).app (.cons (r := .sort a q) (.nil _))
theorem Runs.inv {S l S' : List Qn} {r : Qn} (h : Runs S (r :: l) S') : ∃ S0, S = S0 ++ kids r ∧ Runs (S0 ++ [r]) l S' := by
  cases h with
  | cons h => exact ⟨_, rfl, h⟩
noncomputable def z2B (P : Program) (w : World) (K : PySem.W.Frag) (mg : Str → Option Value) (base : Heap) (k : Nat) : SpS := fun outer s vs H Q E => ∃ (v : V) (q : Qn) (lf : Addr) (spW : Sp) (Ok : Hp → Prop) (Res : Qn → V → Hp → Prop),
  vs = [v, .ref lf] ∧ QAt H q v ∧ (post q).length ≤ 100000 ∧ WorkOk P w K mg base CX0 k (frs outer) H s lf spW ∧ Ok H ∧ (∀ H1 H2, zF H1 H2 → Ok H1 → Ok H2) ∧ (∀ r u H1 H2, Nt H1 H2 → Res r u H1 → Res r u H2) ∧
  (∀ r ∈ post q, ∀ (rv : V) (wl : Addr) (ws : List V) (H1 : Hp) (Q1 : VK), Nt H H1 → Ok H1 → QAt H1 r rv → H1 wl = some (.lst ws) → kY Res H1 (kids r) ws → (∀ v' H2, Nt H1 H2 → Ok H2 → Res r v' H2 → Q1 v' H2) → spW [rv, .ref wl] H1 Q1 E0) ∧
  ∀ v' H', Nt H H' → Ok H' → Res q v' H' → Q v' H'
theorem kF : FnScope ["question", "work", "done", "place", "within", "inner"] ["question", "work"] (zl z0x) := ⟨rfl, rfl, rfl, by decide +kernel, rfl, by decide +kernel, by decide +kernel⟩
theorem z4O {k : Nat} (hk2 : 2 ≤ k) (F : Fun K "built_up" "built_up" z0x f fd) (T : Txt K mg) (Cinner_first : Kn P w K mg base 2 "inner_first" ["question"] (z4l K)) (Cstraight_within : Kn P w K mg base 1 "straight_within" ["question"] (z1E K)) : FnOkS P w K mg base CX0 (k + 1) f fd ["question", "work"] (z2B P w K mg base k) := by
  refine F.okS0 kF (fun outer s vs H Q E h => ?_) (fun cdv A outer s H vs Q E hr h => ?_)
  · obtain ⟨v, q, lf, spW, Ok, Res, rfl, _⟩ := h
    rfl
  obtain ⟨v, q, lf, spW, Ok, Res, rfl, hq, hsz, W, ok0, okS, resN, work, fin⟩ := h;refine ⟨_, (zd (zo (i := 2) kF.nd rfl (Or.inl rfl) (zI ze))
    (zd (jH PassesOwn.never rfl (zX (zy Cinner_first hr.m rfl (zb (pv 0) ze))) (jf (i := 3) kF.nd rfl (Or.inl rfl))
      (zd (zo (i := 4) kF.nd rfl (Or.inl rfl) (zI ze))
      (zd (jH PassesOwn.never rfl (zX (zy Cstraight_within hr.m rfl (zb (pv 3) ze))) (jf (i := 5) kF.nd rfl (Or.inl rfl))
        (zg (jc (jF PySem.F.plainAttrs_list PySem.F.slot_list_insert PySem.F.type_list_insert z79 (pv 4) (zv za (zV (z4s PySem.F.plainAttrs_list PySem.F.slot_list_pop PySem.F.type_list_pop z4d (pv 2)) ze))))))
      (zg (jc (jF PySem.F.plainAttrs_list PySem.F.slot_list_append PySem.F.type_list_append jz (pv 2) (zV (z6V (i := 1) W z6F rfl hr rfl (Or.inl rfl) (zb (pv 3) (zb (pv 4) ze))) ze)))))))
    (zg (zB (zh zz (pv 2) za (fun _ _ => rfl)))))), ?_⟩
  refine ⟨zq (by show 0 ≤ _; decide), fun dn hdn => ?_⟩;refine ⟨_, rfl, v, q, rfl, hq.mono fun b xs e => by rw [zt (zr e hdn)]; exact e, hsz, fun l kv H2 n2 fl x2 qs2 => ?_⟩;have s1 : zF H (upd H dn (.lst [])) := zG hdn _;have d2 : H2 dn = some (.lst []) := n2 _ _ zm;have nld : l ≠ dn := fun z => by rw [z, zm] at fl; cases fl
  have g2 : zF H (hid H2 dn) := z51 (s1.trans n2) hdn;have hl2 : hid H2 dn l = some (.lst kv) := (z0D nld).trans x2;have tmh : ∀ b xs, H2 b = some (.tup xs) → hid H2 dn b = some (.tup xs) := fun b xs e => by rw [z0D (z2f e d2 (by intro z; cases z))]; exact e
  have lkv := qs2.len;refine ⟨l, rfl, ⟨_, SqL.of x2⟩, jT (xs := kv) (fun i σ H' => ∃ (G : Hp) (S : List Qn) (ds : List V) (o3 o4 o5 : Option V), σ = [some v, some (.ref lf), some (.ref dn), o3, o4, o5] ∧ H' = upd G dn (.lst ds) ∧ G dn = none ∧ Nt H G ∧ Ok G ∧ G l = some (.lst kv) ∧ yV G (post q) kv ∧ kY Res G S ds ∧ Runs S ((post q).drop i) [q] ∧ S.length ≤ i)
    ⟨hid H2 dn, [], [], none, none, none, rfl, (z6A d2).symm, z1T, Nt.of g2, okS _ _ g2 ok0, hl2, qs2.mono tmh, rfl, by have := jK q []; simpa using this, Nat.le_refl _⟩ ?_ ?_ ?_⟩
  · rintro i σ H' _ ⟨G, S, ds, o3, o4, o5, rfl, rfl, gd, nt, okG, gl, _⟩;exact SqL.of (by rw [zt nld]; exact gl)
  · rintro i rv σ H' hi ⟨G, S, ds, o3, o4, o5, rfl, rfl, gd, nt, okG, gl, qsG, rs, run, hS⟩;obtain ⟨r, hr', hrv⟩ := qsG.at' hi;have hil : i < (post q).length := (List.getElem?_eq_some_iff.mp hr').1;have hir : (post q)[i] = r := (List.getElem?_eq_some_iff.mp hr').2;rw [List.drop_eq_getElem_cons hil, hir] at run;obtain ⟨S0, rfl, run'⟩ := run.inv;have hmem : r ∈ post q := List.mem_of_getElem? hr';refine ⟨zq (by show 0 ≤ _; decide), fun wl hwl => ?_⟩;have nwd : wl ≠ dn := fun z => by rw [z, zm] at hwl; cases hwl
    have gw : G wl = none := by rw [zt nwd] at hwl; exact hwl
    rw [z5r nwd];have n1 : zF G (upd G wl (.lst [])) := zG gw _;have w1 : upd G wl (.lst []) wl = some (.lst []) := zm;have d1 : upd G wl (.lst []) dn = none := by rw [zt nwd.symm]; exact gd
    generalize upd G wl (.lst []) = G1 at n1 w1 d1 ⊢;have hrv1 : QAt (upd G1 dn (.lst ds)) r rv := (hrv.same n1).mono fun b xs e => by rw [zt (zr e d1)]; exact e
    refine ⟨_, rfl, rv, r, rfl, hrv1, fun sl kk H4 n4 fsl x4 qk => ?_⟩;have d4 : H4 dn = some (.lst ds) := n4 _ _ zm;have nsd : sl ≠ dn := fun z => by rw [z, zm] at fsl; cases fsl
    have e4 : upd (hid H4 dn) dn (.lst ds) = H4 := z6A d4;have n14 : zF G1 (hid H4 dn) := z51 ((zG d1 _).trans n4) d1;have sl4 : hid H4 dn sl = some (.lst kk) := (z0D nsd).trans x4;have g4d : hid H4 dn dn = none := z1T;rw [← e4];generalize hid H4 dn = G4 at n14 sl4 g4d ⊢;have w4 := n14 _ _ w1;have nws : sl ≠ wl := fun z => by
      have := n14 _ _ w1;rw [z, zt nwd, w1] at fsl;cases fsl
    have lkk := qk.len;have lds := rs.len;rw [List.length_append] at lds hS;have hlen : ds.length = S0.length + (kids r).length := lds;refine ⟨sl, rfl, ⟨_, SqL.of (by rw [zt nsd]; exact sl4)⟩, jT (xs := kk) (fun j σ H' => ∃ (ds' ws : List V) (o5 : Option V), σ = [some v, some (.ref lf), some (.ref dn), some rv, some (.ref wl), o5] ∧ H' = upd (upd G4 wl (.lst ws)) dn (.lst ds') ∧ ds = ds' ++ ws ∧ ws.length = j)
      ⟨ds, [], o5, rfl, by rw [z8q w4], by simp, rfl⟩ ?_ ?_ ?_⟩
    · rintro j σ H' _ ⟨ds', ws, o5, rfl, rfl, _⟩;exact SqL.of (by rw [zt nsd, zt nws]; exact sl4)
    · rintro j kx σ H' hj ⟨ds', ws, o5, rfl, rfl, eds, hws⟩;have hjl : j < kk.length := (List.getElem?_eq_some_iff.mp hj).1;have hne : ds' ≠ [] := fun z => by
        have := congrArg List.length eds;rw [z, List.nil_append, hlen, hws] at this;omega
      obtain ⟨gs, g, rfl⟩ := z4i hne;have hD : upd (upd G4 wl (.lst ws)) dn (.lst (gs ++ [g])) dn = some (.lst (gs ++ [g])) := zm;have hWl : upd (upd G4 wl (.lst ws)) dn (.lst (gs ++ [g])) wl = some (.lst ws) := by rw [zt nwd, zm]
      refine ⟨_, rfl, .inl ⟨rfl, _, SqL.of hWl⟩, _, rfl, .inl ⟨rfl, _, SqL.of hD⟩, dn, _, g, rfl, rfl, hD, z2E _ _, ?_⟩;rw [List.dropLast_concat, z0p];have hWl2 : upd (upd G4 wl (.lst ws)) dn (.lst gs) wl = some (.lst ws) := by rw [zt nwd, zm]
      refine ⟨wl, ws, g, rfl, rfl, hWl2, zH (by omega), ?_⟩;refine ⟨gs, g :: ws, _, rfl, ?_, by rw [eds, List.append_assoc]; rfl, by rw [List.length_cons, hws]⟩;rw [z5r nwd, z0p]
    · rintro σ H' ⟨ds', ws, o5, rfl, rfl, eds, hws⟩;rw [eds] at rs;have hl1 : ds'.length = S0.length := by
        have := congrArg List.length eds;rw [List.length_append] at this;omega
      obtain ⟨rs1, rs2⟩ := rs.cut hl1;have sG5 : zF G (upd G4 wl (.lst ws)) := fun b o e => by
        rw [zt (zr e gw)];exact n14 _ _ (n1 _ _ e)
      have nG5 := Nt.of sG5;have d5 : upd G4 wl (.lst ws) dn = none := by rw [zt nwd.symm]; exact g4d
      have w5 : upd G4 wl (.lst ws) wl = some (.lst ws) := zm;have ok5 := okS _ _ sG5 okG;generalize upd G4 wl (.lst ws) = G5 at sG5 nG5 d5 w5 ok5 ⊢;have hD : upd G5 dn (.lst ds') dn = some (.lst ds') := zm;refine ⟨_, rfl, .inl ⟨rfl, _, SqL.of hD⟩, rfl, _, rfl, _, rfl, dn, ds', hD, ?_⟩;rw [z9h d5];refine work r hmem rv wl ws G5 _ (nt.trans nG5) ok5 (hrv.mono fun b xs e => nG5.tup e) w5 (rs2.imp fun r u z => resN r u _ _ nG5 z) fun v' H6 n6 ok6 res6 d6 => ?_
      refine ⟨dn, ds', v', rfl, rfl, zm, zH (by omega), ?_⟩;rw [z0p];have n06 := nG5.trans n6;exact ⟨H6, S0 ++ [r], ds' ++ [v'], _, _, _, rfl, rfl, d6, nt.trans n06, ok6, n06.lst gl, qsG.mono fun b xs e => n06.tup e, (rs1.imp fun r u z => resN r u _ _ n06 z).app ⟨v', [], rfl, res6, rfl⟩, run', by rw [List.length_append, List.length_singleton]; omega⟩
  · rintro σ H' ⟨G, S, ds, o3, o4, o5, rfl, rfl, gd, nt, okG, gl, qsG, rs, run, hS⟩;rw [lkv, List.drop_length] at run;cases run;obtain ⟨v', ws, rfl, res, e⟩ := rs;have e' : ws = [] := e;subst e';have sd : zF G (upd G dn (.lst [v'])) := zG gd _;exact ⟨_, rfl, dn, _, _, _, rfl, rfl, SqL.of zm, zQ, fin v' _ (nt.trans (Nt.of sd)) (okS _ _ sd okG) (resN _ _ _ _ (Nt.of sd) res)⟩

noncomputable def wfQ (th : Str → List Str) : Qn → Prop
  | .table n => n ∈ tabs
  | .pick c q => c.ok (zc th q) ∧ c.size ≤ 20 ∧ wfQ th q
  | .cols ns q => ns.Nodup ∧ (∀ n ∈ ns, n ∈ zc th q) ∧ wfQ th q
  | .pair q r => (∀ n ∈ zc th q, n ∉ zc th r) ∧ (zc th q ++ zc th r).length ≤ 100 ∧ wfQ th q ∧ wfQ th r
  | .join a b q r => a ∈ zc th q ∧ b ∈ zc th r ∧ (∀ n ∈ zc th q, n ∉ zc th r) ∧ (zc th q ++ zc th r).length ≤ 100 ∧ wfQ th q ∧ wfQ th r
  | .both q r => zc th q = zc th r ∧ wfQ th q ∧ wfQ th r
  | .first n q => 0 ≤ n ∧ wfQ th q
  | .group a b n s q => a ∈ zc th q ∧ b ∈ zc th q ∧ [a, n, s].Nodup ∧ wfQ th q
  | .sort a q => a ∈ zc th q ∧ wfQ th q
theorem z8h {ns hs : List Str} (nd : ns.Nodup) (h : ∀ n ∈ ns, n ∈ hs) : ns.length ≤ hs.length := ko nd h
theorem jk {th : Str → List Str} {tr : Str → List (List Int)} (T : TabOk th tr) : ∀ {q : Qn}, wfQ th q → (zc th q).Nodup ∧ (zc th q).length ≤ 100
  | .table n, h => ⟨(T.hd n h).2, by
    obtain ⟨m, m1, m2, e⟩ := T.t;have ht : (th "t").length ≤ 100 := by rw [e, List.length_take]; omega
    have hn : n ∈ tabs := h;simp only [tabs, List.mem_cons, List.not_mem_nil, or_false] at hn
    show (th n).length ≤ 100
    rcases hn with rfl | rfl | rfl | rfl
    · exact ht
    · rw [T.w]; decide +kernel
    · rw [T.x]; decide +kernel
    · rw [T.z]; exact ht⟩
  | .pick _ q, h => jk T (q := q) h.2.2
  | .cols ns q, h => ⟨h.1, Nat.le_trans (z8h h.1 h.2.1) (jk T (q := q) h.2.2).2⟩
  | .pair q r, h => ⟨List.nodup_append.mpr ⟨(jk T (q := q) h.2.2.1).1, (jk T (q := r) h.2.2.2).1, fun a ha b hb e => h.1 a ha (e ▸ hb)⟩, h.2.1⟩
  | .join a b q r, h => ⟨List.nodup_append.mpr ⟨(jk T (q := q) h.2.2.2.2.1).1, (jk T (q := r) h.2.2.2.2.2).1, fun a ha b hb e => h.2.2.1 a ha (e ▸ hb)⟩, h.2.2.2.1⟩
  | .both q r, h => jk T (q := q) h.2.1
  | .first _ q, h => jk T (q := q) h.2
  | .group a b n s q, h => ⟨h.2.2.1, by show 3 ≤ 100; decide⟩
  | .sort _ q, h => jk T (q := q) h.2
noncomputable def z9C (th : Str → List Str) (r : Qn) (v : V) (H : Hp) : Prop := ∃ hp, v = .ref hp ∧ H hp = some (.lst ((zc th r).map V.str))
noncomputable def z7L (K : PySem.W.Frag) : Sp := fun vs H Q _ => ∃ (th : Str → List Str) (tr : Str → List (List Int)) (tp : Addr) (n : Str), vs = [.ref tp, .str n] ∧ jP th tr H tp ∧ n ∈ tabs ∧ (th n).length ≤ 1000 ∧ ∀ (hp : Addr) (H' : Hp), zF H H' → H' hp = some (.lst ((th n).map V.str)) → Q (.ref hp) H'
theorem z1x {th : Str → List Str} {tr : Str → List (List Int)} {H : Hp} {p : Addr} (h : jP th tr H p) : ∃ vs : List V, H p = some (.lst vs) ∧ vs.length = 4 ∧ ∀ i, i < 4 → ∃ v, vs[i]? = some v ∧ TabAt th tr H v (tabs.getD i "") := by
  obtain ⟨v0, v1, v2, v3, h0, a, b, c, d⟩ := h;refine ⟨_, h0, rfl, fun i hi => ?_⟩
  match i, hi with
  | 0, _ => exact ⟨v0, rfl, a⟩
  | 1, _ => exact ⟨v1, rfl, b⟩
  | 2, _ => exact ⟨v2, rfl, c⟩
  | 3, _ => exact ⟨v3, rfl, d⟩
theorem z6o {n : Str} (h : n ∈ tabs) : ∃ j, j < 4 ∧ tabs.getD j "" = n := by
  have hn := h;simp only [tabs, List.mem_cons, List.not_mem_nil, or_false] at hn;rcases hn with rfl | rfl | rfl | rfl
  · exact ⟨0, by decide, rfl⟩
  · exact ⟨1, by decide, rfl⟩
  · exact ⟨2, by decide, rfl⟩
  · exact ⟨3, by decide, rfl⟩
theorem z0d : FnScope ["tables", "name", "table"] ["tables", "name"] (zl yq) := ⟨rfl, rfl, rfl, by decide +kernel, rfl, by decide +kernel, by decide +kernel⟩
theorem z1q (F : Fun K "heads_of_table" "heads_of_table" yq f fd) (T : Txt K mg) : FnOk P w K mg base CX0 1 f fd ["tables", "name"] (z7L K) := by
  refine F.ok z0d (fun vs H Q E h => ?_) (fun cdv A outer s H vs Q E hr h => ?_)
  · obtain ⟨th, tr, tp, n, rfl, _⟩ := h
    rfl
  obtain ⟨th, tr, tp, n, rfl, h4, hn, hln, fin⟩ := h;obtain ⟨vs, hvs, l4, at4⟩ := z1x h4;obtain ⟨j, hj, ej⟩ := z6o hn;refine ⟨_, (zd (jH PassesOwn.never rfl (zX (pv 0)) (jf (i := 2) z0d.nd rfl (Or.inl rfl))
      (zg (zO (zw zT (zh zj (pv 2) za (fun _ _ => rfl)) (pv 1) (zC _))
        (zg (zB (jq yR rfl T.list PyProof.Rows.boot_list (zk (zh zj (pv 2) za (fun _ _ => rfl)) ze))))
        zE)))
    (zg z1F)), ?_⟩
  refine ⟨_, rfl, tp, rfl, ⟨_, SqL.of hvs⟩, jT (xs := vs) (fun i σ H' => ∃ o2, σ = [some (.ref tp), some (.str n), o2] ∧ H' = H ∧ i ≤ j) ⟨none, rfl, rfl, Nat.zero_le _⟩ ?_ ?_ ?_⟩
  · rintro i σ H' _ ⟨o2, rfl, rfl, _⟩;exact SqL.of hvs
  · rintro i x σ H' hi ⟨o2, rfl, rfl, hij⟩;have hi4 : i < 4 := by rw [← l4]; exact (List.getElem?_eq_some_iff.mp hi).1
    obtain ⟨v, hv, p, hp, rp, rs, rfl, t1, t2, t3, t4⟩ := at4 i hi4;rw [hi] at hv;cases hv;refine ⟨_, rfl, p, _, _, _, rfl, rfl, SqT.of t1, zQ, _, rfl, rfl, _, rfl, ?_⟩;by_cases e : tabs.getD i "" = n
    · refine ifT (by rw [yk]; exact decide_eq_true e) ?_;rw [e] at t2;refine ⟨_, rfl, p, _, _, _, rfl, rfl, SqT.of t1, jd, hp, _, rfl, .inl (SqL.of t2), fun l hl => ?_⟩;refine zf (upd _ l _) rfl hl fun H1 n1 x1 => ?_
      exact fin l H1 n1 x1
    · refine ifF (by rw [yk]; exact decide_eq_false e) ?_;refine ⟨_, rfl, rfl, ?_⟩;have : i ≠ j := fun z => e (by rw [z]; exact ej)
      omega
  · rintro σ H' ⟨o2, rfl, rfl, hij⟩;omega
noncomputable def z2C (K : PySem.W.Frag) : Sp := fun vs H Q _ => ∃ (np hp : Addr) (ns hs : List Str), vs = [.ref np, .ref hp] ∧ (SqL K H np (ns.map V.str) ∨ SqT K H np (ns.map V.str)) ∧ SqL K H hp (hs.map V.str) ∧ (∀ n ∈ ns, n ∈ hs) ∧ Q .non H
theorem z6z {n : Str} {hs : List Str} (h : n ∈ hs) : inV (.str n) (hs.map V.str) = true := by
  unfold inV;exact List.any_eq_true.mpr ⟨.str n, List.mem_map.mpr ⟨n, h, rfl⟩, by simp [eqV]⟩
theorem zU (hs : List Str) : (hs.map V.str).all kg = true := List.all_eq_true.mpr fun x hx => by
  obtain ⟨s, _, rfl⟩ := List.mem_map.mp hx
  rfl
theorem z7D {ns : List Str} {i : Nat} {x : V} (h : (ns.map V.str)[i]? = some x) : ∃ n ∈ ns, x = .str n := by
  obtain ⟨n, hn, e⟩ := List.mem_map.mp (List.mem_of_getElem? h);exact ⟨n, hn, e.symm⟩
theorem z0j : FnScope ["names", "heads", "name"] ["names", "heads"] (zl yK) := ⟨rfl, rfl, rfl, by decide +kernel, rfl, by decide +kernel, by decide +kernel⟩
theorem z1Y (F : Fun K "check_columns" "check_columns" yK f fd) (T : Txt K mg) : FnOk P w K mg base CX0 1 f fd ["names", "heads"] (z2C K) := by
  refine F.ok z0j (fun vs H Q E h => ?_) (fun cdv A outer s H vs Q E hr h => ?_)
  · obtain ⟨np, hp, ns, hs, rfl, _⟩ := h
    rfl
  obtain ⟨np, hp, ns, hs, rfl, hnp, hhp, sub, q⟩ := h;refine ⟨_, (zg (jH PassesOwn.never rfl (zaA (zX (pv 0)) (z1S (pv 0))) (jf (i := 2) z0j.nd rfl (Or.inl rfl))
      (zg (zO (zw kR (pv 2) (pv 1) (by with_unfolding_all rfl))
        (zg z1F)
        zE)))), ?_⟩
  rcases hnp with hnp | hnp
  · refine .inl ⟨_, rfl, np, rfl, ⟨_, hnp⟩, jT (xs := ns.map V.str) (fun i σ H' => ∃ o2, σ = [some (.ref np), some (.ref hp), o2] ∧ H' = H) ⟨none, rfl, rfl⟩ ?_ ?_ ?_⟩
    · rintro i σ H' _ ⟨o2, rfl, rfl⟩;exact hnp
    · rintro i x σ H' hi ⟨o2, rfl, rfl⟩;obtain ⟨n, hn, rfl⟩ := z7D hi;refine ⟨_, rfl, _, rfl, hp, _, rfl, .inl hhp, rfl, zU hs, _, rfl, ?_⟩;exact ifF (by show (!inV _ _) = false; rw [z6z (sub n hn)]; rfl) ⟨_, rfl, rfl⟩
    · rintro σ H' ⟨o2, rfl, rfl⟩;exact q
  · refine .inr ⟨_, rfl, np, rfl, ⟨_, hnp⟩, z4r (xs := ns.map V.str) (fun i σ H' => ∃ o2, σ = [some (.ref np), some (.ref hp), o2] ∧ H' = H) ⟨none, rfl, rfl⟩ ?_ ?_ ?_⟩
    · rintro i σ H' _ ⟨o2, rfl, rfl⟩;exact hnp
    · rintro i x σ H' hi ⟨o2, rfl, rfl⟩;obtain ⟨n, hn, rfl⟩ := z7D hi;refine ⟨_, rfl, _, rfl, hp, _, rfl, .inl hhp, rfl, zU hs, _, rfl, ?_⟩;exact ifF (by show (!inV _ _) = false; rw [z6z (sub n hn)]; rfl) ⟨_, rfl, rfl⟩
    · rintro σ H' ⟨o2, rfl, rfl⟩;exact q
noncomputable def z4f (K : PySem.W.Frag) : Sp := fun vs H Q _ => ∃ (hp : Addr) (hs : List Str), vs = [.ref hp] ∧ SqL K H hp (hs.map V.str) ∧ hs.length ≤ 1000 ∧ hs.Nodup ∧ ∀ H', zF H H' → Q (.ref hp) H'
theorem z4p : FnScope ["heads"] ["heads"] (zl z09) := ⟨rfl, rfl, rfl, by decide +kernel, rfl, by decide +kernel, by decide +kernel⟩
theorem z4G (F : Fun K "each_once" "each_once" z09 f fd) (T : Txt K mg) (R : TxtP K mg) : FnOk P w K mg base CX0 1 f fd ["heads"] (z4f K) := by
  refine F.ok z4p (fun vs H Q E h => ?_) (fun cdv A outer s H vs Q E hr h => ?_)
  · obtain ⟨hp, hs, rfl, _⟩ := h
    rfl
  obtain ⟨hp, hs, rfl, hhp, hl, nd, q⟩ := h;refine ⟨_, (zd (zO (zw z16 (zx (z52 (P := P) (w := w) rfl rfl) rfl T.len PySem.boot_len (zV (jq (z8l (P := P) (w := w) (K := K) rfl rfl rfl rfl) rfl R.set PyProof.Rows.boot_set (zb (pv 0) ze)) ze)) (zx zu rfl T.len PySem.boot_len (zb (pv 0) ze)) (zC _))
      (zg z1F)
      zE)
    (zg (zB (pv 0)))), ?_⟩
  refine ⟨_, rfl, hp, hs, rfl, hhp, hl, fun a ha => ?_⟩;refine zf (upd _ a _) rfl ha fun H1 n1 x1 => ?_
  refine ⟨a, _, rfl, x1, _, rfl, hp, _, rfl, .inl (n1.seq hhp), rfl, _, rfl, ?_⟩;refine ifF ?_ ?_
  · rw [(z5T hs).mpr nd, List.length_map];simp
  · exact ⟨_, rfl, q _ n1⟩

noncomputable def z7T (K : PySem.W.Frag) : Sp := fun vs H Q _ => ∃ (th : Str → List Str) (tr : Str → List (List Int)) (q r : Qn) (v : V) (hp : Addr), vs = [v, .ref hp] ∧ TabOk th tr ∧ QAt H q v ∧ kids q = [r] ∧ wfQ th q ∧ H hp = some (.lst ((zc th r).map V.str)) ∧
  ∀ (hp' : Addr) (H' : Hp), zF H H' → H' hp' = some (.lst ((zc th q).map V.str)) → Q (.ref hp') H'
theorem z8t {hs : List Str} {c : Cond} (h : c.ok hs) : ∀ s ∈ c.cols, s ∈ hs := by
  have side : ∀ {a : Side}, a.ok hs → ∀ s ∈ a.cols, s ∈ hs := fun {a} h s m => by
    cases a with
    | nm x => rw [show s = x from List.mem_singleton.mp m]; exact h
    | nu i => cases m
  induction c with
  | less a b => exact fun s m => (List.mem_append.mp m).elim (side h.1 s) (side h.2 s)
  | same a b => exact fun s m => (List.mem_append.mp m).elim (side h.1 s) (side h.2 s)
  | no c ih => exact ih h
  | an c d ih1 ih2 => exact fun s m => (List.mem_append.mp m).elim (ih1 h.1 s) (ih2 h.2 s)
  | or c d ih1 ih2 => exact fun s m => (List.mem_append.mp m).elim (ih1 h.1 s) (ih2 h.2 s)
theorem zbc {α : Type} {x y z u t : α} {r : List α} : atI (x :: y :: z :: u :: t :: r) 4 = some t := zW (j := 4) rfl
theorem z0f : FnScope ["question", "heads", "word"] ["question", "heads"] (zl yz) := ⟨rfl, rfl, rfl, by decide +kernel, rfl, by decide +kernel, by decide +kernel⟩
theorem z1r (F : Fun K "heads_over_one" "heads_over_one" yz f fd) (T : Txt K mg) (Ccheck_columns : Kn P w K mg base 1 "check_columns" ["names", "heads"] (z2C K)) (Ccolumns_of : Kn P w K mg base 1 "columns_of" ["condition"] (z5E K)) (Ceach_once : Kn P w K mg base 1 "each_once" ["heads"] (z4f K)) : FnOk P w K mg base CX0 2 f fd ["question", "heads"] (z7T K) := by
  refine F.ok z0f (fun vs H Q E h => ?_) (fun cdv A outer s H vs Q E hr h => ?_)
  · obtain ⟨th, tr, q, r, v, hp, rfl, _⟩ := h
    rfl
  obtain ⟨th, tr, q, r, v, hp, rfl, TT, hq, hk, wf, hh, fin⟩ := h;refine ⟨_, (zd (zo (i := 2) z0f.nd rfl (Or.inl rfl) (zh zj (pv 0) za (fun _ _ => rfl)))
    (zd (zO (zw zT (pv 2) zn (zC _))
      (zg (jc (zy Ccheck_columns hr.m rfl (zV (zy Ccolumns_of hr.m rfl (zk (zh zj (pv 0) za (fun _ _ => rfl)) ze)) (zb (pv 1) ze)))))
      (zg (zO (zw zT (pv 2) zn (zC _))
        (zg (jc (zy Ccheck_columns hr.m rfl (yf (zI (zk (zh zj (pv 0) za (fun _ _ => rfl)) ze)) (zb (pv 1) ze)))))
        (zg (zO (zw zT (pv 2) zn (zC _))
          (zd (jc (zy Ccheck_columns hr.m rfl (zk (zh zj (pv 0) za (fun _ _ => rfl)) (zb (pv 1) ze))))
          (zg (zB (zy Ceach_once hr.m rfl (zV (jq yR rfl T.list PyProof.Rows.boot_list (zk (zh zj (pv 0) za (fun _ _ => rfl)) ze)) ze)))))
          (zg (zO (zw zT (pv 2) zn (zC _))
            (zd (jc (zy Ccheck_columns hr.m rfl (yf (zI (zk (zh zj (pv 0) za (fun _ _ => rfl)) (zk (zh zj (pv 0) za (fun _ _ => rfl)) ze))) (zb (pv 1) ze))))
            (zg (zB (zy Ceach_once hr.m rfl (yf (zI (zk (zh zj (pv 0) za (fun _ _ => rfl)) (zk (zh zj (pv 0) za (fun _ _ => rfl)) (zk (zh zj (pv 0) za (fun _ _ => rfl)) ze)))) ze)))))
            zE)))))))
    (zg (zB (pv 1))))), ?_⟩
  have l0 : ∀ n : Nat, n ≤ 10 → n ≤ sizeLine := fun n h => zq (by omega)
  have no : ∀ {a b : Str}, a ≠ b → decide (V.str a = V.str b) = false := fun {a b} h => by rw [yk]; exact decide_eq_false h
  have yes : ∀ a : Str, decide (V.str a = V.str a) = true := fun a => decide_eq_true rfl
  cases q with
  | table n => cases hk
  | pair a b => cases hk
  | join x y a b => cases hk
  | both a b => cases hk
  | pick c q' =>
    cases (show q' = r from (List.cons.inj hk).1);obtain ⟨p, x, y, rfl, h1, h2, h3⟩ := hq;refine ⟨_, rfl, p, _, _, _, rfl, rfl, SqT.of h1, zQ, ?_⟩;refine ⟨_, rfl, rfl, _, rfl, ?_⟩;refine ifT (yes _) ?_;refine ⟨_, rfl, p, _, _, _, rfl, rfl, SqT.of h1, jd, c, x, c.cols, rfl, h2, by have := wf.2.1; omega, fun s m => m, by have := c.cols_le; have := wf.2.1; omega, fun l ss H1 n1 x1 nd mem pw => ?_⟩;refine ⟨_, rfl, l, hp, ss, _, rfl, .inl (SqL.of x1), SqL.of (n1 _ _ hh), fun s m => z8t wf.1 s ((mem s).mp m), ?_⟩;exact ⟨_, rfl, fin hp H1 n1 (n1 _ _ hh)⟩
  | sort a q' =>
    cases (show q' = r from (List.cons.inj hk).1);obtain ⟨p, y, rfl, h1, h3⟩ := hq;refine ⟨_, rfl, p, _, _, _, rfl, rfl, SqT.of h1, zQ, ?_⟩;refine ⟨_, rfl, rfl, _, rfl, ?_⟩;refine ifF (no (by decide +kernel)) ?_;refine ⟨_, rfl, rfl, _, rfl, ?_⟩;refine ifT (yes _) ?_;refine ⟨_, rfl, p, _, _, _, rfl, rfl, SqT.of h1, jd, l0 1 (by decide), fun l hl => ?_⟩;refine zf (upd _ l _) rfl hl fun H1 n1 x1 => ?_
    refine ⟨_, rfl, l, hp, [a], _, rfl, .inl (SqL.of x1), SqL.of (n1 _ _ hh), fun s m => by rw [List.mem_singleton.mp m]; exact wf.1, ?_⟩;exact ⟨_, rfl, fin hp H1 n1 (n1 _ _ hh)⟩
  | cols ns q' =>
    cases (show q' = r from (List.cons.inj hk).1);obtain ⟨p, x, y, rfl, h1, h2, h3⟩ := hq;refine ⟨_, rfl, p, _, _, _, rfl, rfl, SqT.of h1, zQ, ?_⟩;refine ⟨_, rfl, rfl, _, rfl, ?_⟩;refine ifF (no (by decide +kernel)) ?_;refine ⟨_, rfl, rfl, _, rfl, ?_⟩;refine ifF (no (by decide +kernel)) ?_;refine ⟨_, rfl, rfl, _, rfl, ?_⟩;refine ifT (yes _) ?_;refine ⟨_, rfl, p, _, _, _, rfl, rfl, SqT.of h1, jd, _, rfl, x, hp, ns, _, rfl, .inr (SqT.of h2), SqL.of hh, wf.2.1, ?_⟩;refine ⟨_, rfl, p, _, _, _, rfl, rfl, SqT.of h1, jd, x, _, rfl, .inr (SqT.of h2), fun l hl => ?_⟩;refine zf (upd _ l _) rfl hl fun H1 n1 x1 => ?_
    have := (jk TT wf).2;have hns : ns.length ≤ 1000 := by have : ns.length ≤ 100 := this; omega
    exact ⟨l, ns, rfl, SqL.of x1, hns, wf.1, fun H2 n2 => fin l H2 (n1.trans n2) (n2 _ _ x1)⟩
  | group a b n s q' =>
    cases (show q' = r from (List.cons.inj hk).1);obtain ⟨p, y, rfl, h1, h3⟩ := hq;refine ⟨_, rfl, p, _, _, _, rfl, rfl, SqT.of h1, zQ, ?_⟩;refine ⟨_, rfl, rfl, _, rfl, ?_⟩;refine ifF (no (by decide +kernel)) ?_;refine ⟨_, rfl, rfl, _, rfl, ?_⟩;refine ifF (no (by decide +kernel)) ?_;refine ⟨_, rfl, rfl, _, rfl, ?_⟩;refine ifF (no (by decide +kernel)) ?_;refine ⟨_, rfl, rfl, _, rfl, ?_⟩;refine ifT (yes _) ?_;refine ⟨_, rfl, p, _, _, _, rfl, rfl, SqT.of h1, jd, _, rfl, p, _, _, _, rfl, rfl, SqT.of h1, jx, l0 2 (by decide), fun l hl => ?_⟩;refine zf (upd _ l _) rfl hl fun H1 n1 x1 => ?_
    refine ⟨_, rfl, l, hp, [a, b], _, rfl, .inl (SqL.of x1), SqL.of (n1 _ _ hh), fun s m => ?_, ?_⟩
    · rcases List.mem_cons.mp m with e | m
      · rw [e]; exact wf.1
      · rw [List.mem_singleton.mp m]; exact wf.2.1
    · have h1' := n1 _ _ h1;refine ⟨_, rfl, p, _, _, _, rfl, rfl, SqT.of h1', jd, _, rfl, p, _, _, _, rfl, rfl, SqT.of h1', z0h, _, rfl, p, _, _, _, rfl, rfl, SqT.of h1', zbc, l0 3 (by decide), fun l2 hl2 => ?_⟩;refine zf (upd _ l2 _) rfl hl2 fun H2 n2 x2 => ?_
      exact ⟨l2, [a, n, s], rfl, SqL.of x2, by show 3 ≤ 1000; decide, wf.2.2.1, fun H3 n3 => fin l2 H3 (n1.trans (n2.trans n3)) (n3 _ _ x2)⟩
  | first n q' =>
    cases (show q' = r from (List.cons.inj hk).1);obtain ⟨p, y, rfl, h1, h3⟩ := hq;refine ⟨_, rfl, p, _, _, _, rfl, rfl, SqT.of h1, zQ, ?_⟩;refine ⟨_, rfl, rfl, _, rfl, ?_⟩;refine ifF (no (by decide +kernel)) ?_;refine ⟨_, rfl, rfl, _, rfl, ?_⟩;refine ifF (no (by decide +kernel)) ?_;refine ⟨_, rfl, rfl, _, rfl, ?_⟩;refine ifF (no (by decide +kernel)) ?_;refine ⟨_, rfl, rfl, _, rfl, ?_⟩;refine ifF (no (by decide +kernel)) ?_;exact ⟨_, rfl, fin hp H (zF.refl _) hh⟩
noncomputable def z8g (K : PySem.W.Frag) : Sp := fun vs H Q _ => ∃ (th : Str → List Str) (tr : Str → List (List Int)) (q r t : Qn) (v : V) (hp op : Addr), vs = [v, .ref hp, .ref op] ∧ TabOk th tr ∧ QAt H q v ∧ kids q = [r, t] ∧ wfQ th q ∧ H hp = some (.lst ((zc th r).map V.str)) ∧ H op = some (.lst ((zc th t).map V.str)) ∧
  ∀ (hp' : Addr) (H' : Hp), zF H H' → H' hp' = some (.lst ((zc th q).map V.str)) → Q (.ref hp') H'
theorem z1l : FnScope ["question", "heads", "others"] ["question", "heads", "others"] (zl yv) := ⟨rfl, rfl, rfl, by decide +kernel, rfl, by decide +kernel, by decide +kernel⟩
theorem z1B (F : Fun K "heads_over_two" "heads_over_two" yv f fd) (T : Txt K mg) (Ccheck_columns : Kn P w K mg base 1 "check_columns" ["names", "heads"] (z2C K)) (Ceach_once : Kn P w K mg base 1 "each_once" ["heads"] (z4f K)) : FnOk P w K mg base CX0 2 f fd ["question", "heads", "others"] (z8g K) := by
  refine F.ok z1l (fun vs H Q E h => ?_) (fun cdv A outer s H vs Q E hr h => ?_)
  · obtain ⟨th, tr, q, r, t, v, hp, op, rfl, _⟩ := h
    rfl
  obtain ⟨th, tr, q, r, t, v, hp, op, rfl, TT, hq, hk, wf, hh, ho, fin⟩ := h;have hu := z2X hr;refine ⟨_, (zd (zO (zw zT (zh zj (pv 0) za (fun _ _ => rfl)) zn (zC _))
      (zd (zO (zw (z75 (K := K) rfl hu) (pv 1) (pv 2) (zC _))
        (zg z1F)
        zE)
      (zg (zB (pv 1))))
      zE)
    (zd (zO (zw zT (zh zj (pv 0) za (fun _ _ => rfl)) zn (zC _))
      (zd (jc (zy Ccheck_columns hr.m rfl (yf (zI (zk (zh zj (pv 0) za (fun _ _ => rfl)) ze)) (zb (pv 1) ze))))
      (zg (jc (zy Ccheck_columns hr.m rfl (yf (zI (zk (zh zj (pv 0) za (fun _ _ => rfl)) ze)) (zb (pv 2) ze))))))
      zE)
    (zg (zB (zy Ceach_once hr.m rfl (ya (zp yS (pv 1) (pv 2)) ze)))))), ?_⟩
  have l0 : ∀ n : Nat, n ≤ 10 → n ≤ sizeLine := fun n h => zq (by omega)
  have no : ∀ {a b : Str}, a ≠ b → decide (V.str a = V.str b) = false := fun {a b} h => by rw [yk]; exact decide_eq_false h
  have yes : ∀ a : Str, decide (V.str a = V.str a) = true := fun a => decide_eq_true rfl
  have wd := jk TT wf;cases q with
  | table n => cases hk
  | pick c a => cases hk
  | cols ns a => cases hk
  | first n a => cases hk
  | sort n a => cases hk
  | group a b n s q => cases hk
  | both a b =>
    obtain ⟨rfl, e2⟩ := List.cons.inj hk;obtain ⟨rfl, _⟩ := List.cons.inj e2;obtain ⟨p, x, y, rfl, h1, h2, h3⟩ := hq;refine ⟨_, rfl, p, _, _, _, rfl, rfl, SqT.of h1, zQ, rfl, _, rfl, ?_⟩;refine ifT (yes _) ?_;refine ⟨_, rfl, _, rfl, hp, op, _, _, rfl, rfl, SqL.of hh, SqL.of ho, zU _, zU _, _, rfl, ?_⟩;refine ifF (by rw [z5g, decide_eq_true wf.1]; rfl) ?_;exact ⟨_, rfl, fin hp H (zF.refl _) hh⟩
  | pair a b =>
    obtain ⟨rfl, e2⟩ := List.cons.inj hk;obtain ⟨rfl, _⟩ := List.cons.inj e2;obtain ⟨p, x, y, rfl, h1, h2, h3⟩ := hq;refine ⟨_, rfl, p, _, _, _, rfl, rfl, SqT.of h1, zQ, rfl, _, rfl, ?_⟩;refine ifF (no (by decide +kernel)) ?_;refine ⟨_, rfl, p, _, _, _, rfl, rfl, SqT.of h1, zQ, rfl, _, rfl, ?_⟩;refine ifF (no (by decide +kernel)) ?_;refine ⟨_, rfl, _, rfl, hp, op, _, _, rfl, rfl, hh, ho, zq (by rw [List.length_map, List.length_map]; have := wd.2; rw [show zc th (Qn.pair a b) = zc th a ++ zc th b from rfl, List.length_append] at this; omega), fun l hl => ?_⟩;refine zf (upd _ l _) rfl hl fun H1 n1 x1 => ?_
    rw [← List.map_append] at x1;exact ⟨l, _, rfl, SqL.of x1, by have : (zc th a ++ zc th b).length ≤ 100 := wd.2; omega, wd.1, fun H2 n2 => fin l H2 (n1.trans n2) (n2 _ _ x1)⟩
  | join c d a b =>
    obtain ⟨rfl, e2⟩ := List.cons.inj hk;obtain ⟨rfl, _⟩ := List.cons.inj e2;obtain ⟨p, x, y, rfl, h1, h2, h3⟩ := hq;refine ⟨_, rfl, p, _, _, _, rfl, rfl, SqT.of h1, zQ, rfl, _, rfl, ?_⟩;refine ifF (no (by decide +kernel)) ?_;refine ⟨_, rfl, p, _, _, _, rfl, rfl, SqT.of h1, zQ, rfl, _, rfl, ?_⟩;refine ifT (yes _) ?_;refine ⟨_, rfl, p, _, _, _, rfl, rfl, SqT.of h1, jd, l0 1 (by decide), fun l hl => ?_⟩;refine zf (upd _ l _) rfl hl fun H1 n1 x1 => ?_
    refine ⟨_, rfl, l, hp, [c], _, rfl, .inl (SqL.of x1), SqL.of (n1 _ _ hh), fun s m => by rw [List.mem_singleton.mp m]; exact wf.1, ?_⟩;refine ⟨_, rfl, p, _, _, _, rfl, rfl, SqT.of (n1 _ _ h1), jx, l0 1 (by decide), fun l2 hl2 => ?_⟩;refine zf (upd _ l2 _) rfl hl2 fun H2 n2 x2 => ?_
    have n12 := n1.trans n2;refine ⟨_, rfl, l2, op, [d], _, rfl, .inl (SqL.of x2), SqL.of (n12 _ _ ho), fun s m => by rw [List.mem_singleton.mp m]; exact wf.2.1, ?_⟩;refine ⟨_, rfl, _, rfl, hp, op, _, _, rfl, rfl, n12 _ _ hh, n12 _ _ ho, zq (by rw [List.length_map, List.length_map]; have := wd.2; rw [show zc th (Qn.join c d a b) = zc th a ++ zc th b from rfl, List.length_append] at this; omega), fun l3 hl3 => ?_⟩;refine zf (upd _ l3 _) rfl hl3 fun H3 n3 x3 => ?_
    rw [← List.map_append] at x3;exact ⟨l3, _, rfl, SqL.of x3, by have : (zc th a ++ zc th b).length ≤ 100 := wd.2; omega, wd.1, fun H4 n4 => fin l3 H4 (n12.trans (n3.trans n4)) (n4 _ _ x3)⟩
noncomputable def z0W (K : PySem.W.Frag) : Sp := fun vs H Q _ => ∃ (th : Str → List Str) (tr : Str → List (List Int)) (q : Qn) (v : V) (tp wl : Addr) (ws : List V), vs = [.ref tp, v, .ref wl] ∧ TabOk th tr ∧ jP th tr H tp ∧ QAt H q v ∧ wfQ th q ∧ H wl = some (.lst ws) ∧ kY (z9C th) H (kids q) ws ∧
  ∀ (hp : Addr) (H' : Hp), zF H H' → H' hp = some (.lst ((zc th q).map V.str)) → Q (.ref hp) H'
theorem z50 : FnScope ["tables", "question", "within"] ["tables", "question", "within"] (zl z0v) := ⟨rfl, rfl, rfl, by decide +kernel, rfl, by decide +kernel, by decide +kernel⟩
theorem z56 (F : Fun K "heads_at" "heads_at" z0v f fd) (T : Txt K mg) (Cheads_of_table : Kn P w K mg base 1 "heads_of_table" ["tables", "name"] (z7L K)) (Cheads_over_one : Kn P w K mg base 2 "heads_over_one" ["question", "heads"] (z7T K)) (Cheads_over_two : Kn P w K mg base 2 "heads_over_two" ["question", "heads", "others"] (z8g K)) : FnOk P w K mg base CX0 3 f fd ["tables", "question", "within"] (z0W K) := by
  refine F.ok z50 (fun vs H Q E h => ?_) (fun cdv A outer s H vs Q E hr h => ?_)
  · obtain ⟨th, tr, q, v, tp, wl, ws, rfl, _⟩ := h
    rfl
  obtain ⟨th, tr, q, v, tp, wl, ws, rfl, TT, h4, hq, wf, hwl, rs, fin⟩ := h;refine ⟨_, (zd (zO (zw zT (zx zu rfl T.len PySem.boot_len (zb (pv 2) ze)) za (zC _))
      (zg (zB (zy Cheads_of_table hr.m rfl (zb (pv 0) (zk (zh zj (pv 1) za (fun _ _ => rfl)) ze)))))
      zE)
    (zd (zO (zw zT (zx zu rfl T.len PySem.boot_len (zb (pv 2) ze)) za (zC _))
      (zg (zB (zy Cheads_over_one hr.m rfl (zb (pv 1) (zk (zh zz (pv 2) za (fun _ _ => rfl)) ze)))))
      zE)
    (zg (zB (zy Cheads_over_two hr.m rfl (zb (pv 1) (zk (zh zz (pv 2) za (fun _ _ => rfl)) (zk (zh zz (pv 2) za (fun _ _ => rfl)) ze)))))))), ?_⟩
  have lw := rs.len;rcases z8d hq with ⟨n, p, rfl, rfl, hp⟩ | ⟨r, p, w, xs, y, hk, rfl, hp, hy, hin, hw⟩ | ⟨r, t, p, w, xs, x, y, hk, rfl, hp, hx, hy, hin, hw⟩
  · have l0 : ws.length = 0 := lw;refine ⟨_, rfl, wl, _, rfl, .inl (SqL.of hwl), rfl, _, rfl, ?_⟩;refine ifT (by rw [l0]; simp) ?_;exact ⟨_, rfl, _, rfl, p, _, _, _, rfl, rfl, SqT.of hp, jd, th, tr, tp, n, rfl, h4, wf, by have := (jk TT wf).2; have : (th n).length ≤ 100 := this; omega, fin⟩
  · rw [hk] at rs lw;obtain ⟨u, us, rfl, ⟨hp1, rfl, e1⟩, e2⟩ := rs;have e2' : us = [] := e2;subst e2';refine ⟨_, rfl, wl, _, rfl, .inl (SqL.of hwl), rfl, _, rfl, ?_⟩;refine ifF (by simp) ?_;refine ⟨_, rfl, wl, _, rfl, .inl (SqL.of hwl), rfl, _, rfl, ?_⟩;refine ifT (by simp) ?_;exact ⟨_, rfl, _, rfl, wl, _, _, _, rfl, rfl, SqL.of hwl, zQ, th, tr, q, r, .ref p, hp1, rfl, TT, hq, hk, wf, e1, fin⟩
  · rw [hk] at rs lw;obtain ⟨u, us, rfl, ⟨hp1, rfl, e1⟩, u2, us2, rfl, ⟨hp2, rfl, e2⟩, e3⟩ := rs;have e3' : us2 = [] := e3;subst e3';refine ⟨_, rfl, wl, _, rfl, .inl (SqL.of hwl), rfl, _, rfl, ?_⟩;refine ifF (by simp) ?_;refine ⟨_, rfl, wl, _, rfl, .inl (SqL.of hwl), rfl, _, rfl, ?_⟩;refine ifF (by simp) ?_;exact ⟨_, rfl, _, rfl, wl, _, _, _, rfl, rfl, SqL.of hwl, zQ, _, rfl, wl, _, _, _, rfl, rfl, SqL.of hwl, jd, th, tr, q, r, t, .ref p, hp1, hp2, rfl, TT, hq, hk, wf, e1, e2, fin⟩

noncomputable def z8i : Pos := match yt z06 with
  | [.Return (some (.Call _ [_, .Lambda _ _ _ p] _ _)) _] => p
  | _ => ⟨0, 0, 0, 0⟩
noncomputable abbrev z89 : Str := Str.ofString "heads_of" ++ ".<locals>." ++ "<lambda>"
noncomputable def z8C : Pos := match yt yo with
  | [_, .Return (some (.Call _ [_, .Lambda _ _ _ p] _ _)) _] => p
  | _ => ⟨0, 0, 0, 0⟩
noncomputable abbrev z88 : Str := Str.ofString "plain_answer" ++ ".<locals>." ++ "<lambda>"
structure Ls (T1 T2 T3 : Addr) (H : Hp) : Prop where
  a : y0 H T1 z8i z89
  b : y0 H T2 z8C z88
  c : y0 H T3 z2Q z8j
  d12 : T1 ≠ T2
  d13 : T1 ≠ T3
  d23 : T2 ≠ T3
theorem z1L {H H' : Hp} {T T' : Addr} {lp lp' : Pos} {q q' : Str} (hT : y0 H T lp q) (h : y0 H T' lp' q') (n : T ≠ T') (k : Kp T H H') : y0 H' T' lp' q' := by
  rcases h with h | ⟨c, h, oc, vs, t, h2, h3⟩
  · exact .inl (k _ _ n.symm h)
  · exact .inr ⟨c, k _ _ n.symm h, oc, vs, t, k _ _ (hT.ne h2 fun ps z => by cases z) h2, h3⟩
theorem z7V {H H' : Hp} {T : Addr} {lp : Pos} {q : Str} (hT : y0 H T lp q) (k : Kp T H H') : Nt H H' := fun b o e n => k b o (hT.ne e n) e
section
variable {T1 T2 T3 : Addr} {H H' : Hp}
theorem Ls.same (h : Ls T1 T2 T3 H) (e : zF H H') : Ls T1 T2 T3 H' := ⟨h.a.same e, h.b.same e, h.c.same e, h.d12, h.d13, h.d23⟩
theorem Ls.kp1 (h : Ls T1 T2 T3 H) (k : Kp T1 H H') (z : y0 H' T1 z8i z89) : Ls T1 T2 T3 H' := ⟨z, z1L h.a h.b h.d12 k, z1L h.a h.c h.d13 k, h.d12, h.d13, h.d23⟩
theorem Ls.kp2 (h : Ls T1 T2 T3 H) (k : Kp T2 H H') (z : y0 H' T2 z8C z88) : Ls T1 T2 T3 H' := ⟨z1L h.b h.a h.d12.symm k, z, z1L h.b h.c h.d23 k, h.d12, h.d13, h.d23⟩
theorem Ls.kp3 (h : Ls T1 T2 T3 H) (k : Kp T3 H H') (z : y0 H' T3 z2Q z8j) : Ls T1 T2 T3 H' := ⟨z1L h.c h.a h.d13.symm k, z1L h.c h.b h.d23.symm k, z, h.d12, h.d13, h.d23⟩
end
theorem _root_.L2.WorkOk.mono {P : Program} {w : World} {K : PySem.W.Frag} {mg : Str → Option Value} {base : Heap} {CX : CXT} {j k : Nat} {fs : List Addr} {H : Hp} {s : Shared} {lf : Addr} {sp : Sp} (W : WorkOk P w K mg base CX j fs H s lf sp) (h : j ≤ k) : WorkOk P w K mg base CX k fs H s lf sp :=
  ⟨W.here, fun A outer s' H' us vs Q E hr => W.run A outer s' H' us vs Q E (hr.mono h)⟩
theorem _root_.Rw.RowsAt.nt {H H' : Hp} {p : Addr} {rs : List (Addr × List Int)} (h : RowsAt H p rs) (k : Nt H H') : RowsAt H' p rs := ⟨k.lst h.1, fun r m => ⟨(h.2 r m).1, k.lst (h.2 r m).2⟩⟩
theorem TabAt.nt {th : Str → List Str} {tr : Str → List (List Int)} {H H' : Hp} {v : V} {n : Str} (h : TabAt th tr H v n) (k : Nt H H') : TabAt th tr H' v n := by
  obtain ⟨p, hp, rp, rs, rfl, h1, h3, h4, h5⟩ := h;exact ⟨p, hp, rp, rs, rfl, k.tup h1, k.lst h3, h4.nt k, h5⟩
theorem jP.nt {th : Str → List Str} {tr : Str → List (List Int)} {H H' : Hp} {p : Addr} (h : jP th tr H p) (k : Nt H H') : jP th tr H' p := by
  obtain ⟨v0, v1, v2, v3, h0, a, b, c, d⟩ := h;exact ⟨v0, v1, v2, v3, k.lst h0, a.nt k, b.nt k, c.nt k, d.nt k⟩
theorem _root_.Qs.QAt.nt {H H' : Hp} {q : Qn} {v : V} (h : QAt H q v) (k : Nt H H') : QAt H' q v := h.mono fun b xs e => k.tup e
theorem yg {th : Str → List Str} : ∀ {q : Qn}, wfQ th q → ∀ r ∈ post q, wfQ th r
  | .table n, h => fun r m => by rw [List.mem_singleton.mp m]; exact h
  | .pick c q, h => fun r m => (List.mem_append.mp m).elim (yg (q := q) h.2.2 r) fun m => by rw [List.mem_singleton.mp m]; exact h
  | .cols ns q, h => fun r m => (List.mem_append.mp m).elim (yg (q := q) h.2.2 r) fun m => by rw [List.mem_singleton.mp m]; exact h
  | .pair q s, h => fun r m => (List.mem_append.mp m).elim (fun m => (List.mem_append.mp m).elim (yg (q := q) h.2.2.1 r) (yg (q := s) h.2.2.2 r)) fun m => by rw [List.mem_singleton.mp m]; exact h
  | .join a b q s, h => fun r m => (List.mem_append.mp m).elim (fun m => (List.mem_append.mp m).elim (yg (q := q) h.2.2.2.2.1 r) (yg (q := s) h.2.2.2.2.2 r)) fun m => by rw [List.mem_singleton.mp m]; exact h
  | .both q s, h => fun r m => (List.mem_append.mp m).elim (fun m => (List.mem_append.mp m).elim (yg (q := q) h.2.1 r) (yg (q := s) h.2.2 r)) fun m => by rw [List.mem_singleton.mp m]; exact h
  | .first n q, h => fun r m => (List.mem_append.mp m).elim (yg (q := q) h.2 r) fun m => by rw [List.mem_singleton.mp m]; exact h
  | .group a b n s q, h => fun r m => (List.mem_append.mp m).elim (yg (q := q) h.2.2.2 r) fun m => by rw [List.mem_singleton.mp m]; exact h
  | .sort a q, h => fun r m => (List.mem_append.mp m).elim (yg (q := q) h.2 r) fun m => by rw [List.mem_singleton.mp m]; exact h
noncomputable def z22 (K : PySem.W.Frag) (T1 T2 T3 : Addr) : Sp := fun vs H Q _ => ∃ (th : Str → List Str) (tr : Str → List (List Int)) (q : Qn) (v : V) (tp : Addr), vs = [.ref tp, v] ∧ TabOk th tr ∧ jP th tr H tp ∧ QAt H q v ∧ wfQ th q ∧ (post q).length ≤ 100000 ∧ Ls T1 T2 T3 H ∧
  ∀ (hp : Addr) (H' : Hp), Nt H H' → Ls T1 T2 T3 H' → H' hp = some (.lst ((zc th q).map V.str)) → Q (.ref hp) H'
theorem z5h : FnScope ["tables", "question"] ["tables", "question"] (zl z06) := ⟨rfl, rfl, rfl, by decide +kernel, rfl, by decide +kernel, by decide +kernel⟩
theorem z4Q {T1 T2 T3 c : Addr} (F : Fun K "heads_of" "heads_of" z06 f fd) (T : Txt K mg) (hc : fd.code = .ref c) (C : PySem.W.CodeHd base c T1) (B : base.BuiltinsAt mg T1) (Cbuilt_up : KnS P w K mg base CX0 9 "built_up" ["question", "work"] (z2B P w K mg base 8)) (Cheads_at : Kn P w K mg base 3 "heads_at" ["tables", "question", "within"] (z0W K)) : FnOk P w K mg base CX0 10 f fd ["tables", "question"] (z22 K T1 T2 T3) := by
  refine F.okC z5h (fun vs H Q E h => ?_) (fun A outer s H vs Q E hr h => ?_)
  · obtain ⟨th, tr, q, v, tp, rfl, _⟩ := h
    rfl
  obtain ⟨th, tr, q, v, tp, rfl, TT, h4, hq, wf, hsz, hL, fin⟩ := h;refine ⟨_, (zg (zB (z2H (k := 3) (T := T1) (c := c) (j := 0) (a := "place") (b := "within") (y := "tables") Cbuilt_up z6F hr rfl (pv 1) hc C B ⟨rfl, rfl, rfl, rfl, rfl, rfl, by decide +kernel, by decide +kernel, by decide +kernel⟩ (Or.inl rfl) rfl
    (fun _ _ _ _ _ _ _ _ hl => zy Cheads_at hl rfl (zb (pv 2) (zb (pv 0) (zb (pv 1) ze))))))), ?_⟩
  refine ⟨_, rfl, hL.a, .ref tp, rfl, fun lf c' H2 s2 k2 lin W => ?_⟩;have n2 := z7V hL.a k2;have L2' := hL.kp1 k2 (.inr ⟨c', lin⟩);refine ⟨v, q, lf, _, Ls T1 T2 T3, z9C th, rfl, hq.nt n2, hsz, W.mono (by decide), L2', fun H1 H2 e z => z.same e, fun r u H1 H2 n ⟨hp, e, z⟩ => ⟨hp, e, n.lst z⟩, fun r hr' rv wl ws H3 Q1 n3 L3 hrv hwl rs k => ?_, fun v' H' n' L' ⟨hp, e, z⟩ => ?_⟩
  · exact ⟨rv, .ref wl, rfl, _, rfl, _, rfl, _, rfl, th, tr, r, rv, tp, wl, ws, rfl, TT, h4.nt (n2.trans n3), hrv, yg wf r hr', hwl, rs, fun hp H4 n4 x4 => k _ _ (Nt.of n4) (L3.same n4) ⟨hp, rfl, x4⟩⟩
  · rw [e];exact fin hp H' (n2.trans n') L' z

theorem z5M (s : Nat) (rows : List (List Int)) (k : Int) : k ∈ jA s rows ↔ ∃ r ∈ rows, r.getD s 0 = k := by
  refine snoc_ind (P := fun rows => k ∈ jA s rows ↔ ∃ r ∈ rows, r.getD s 0 = k) (by simp [jA]) (fun l a ih => ?_) rows;have e : jA s (l ++ [a]) = if a.getD s 0 ∈ jA s l then jA s l else jA s l ++ [a.getD s 0] := by unfold jA; rw [List.foldl_append]; rfl
  rw [e];have : (∃ r ∈ l ++ [a], r.getD s 0 = k) ↔ (∃ r ∈ l, r.getD s 0 = k) ∨ a.getD s 0 = k := by
    constructor
    · rintro ⟨r, hr, h⟩;rcases List.mem_append.mp hr with hr | hr
      · exact .inl ⟨r, hr, h⟩
      · rw [List.mem_singleton.mp hr] at h; exact .inr h
    · rintro (⟨r, hr, h⟩ | h)
      · exact ⟨r, List.mem_append_left _ hr, h⟩
      · exact ⟨a, List.mem_append_right _ (List.mem_singleton.mpr rfl), h⟩
  rw [this, ← ih];split
  · rename_i h;exact ⟨.inl, fun z => z.elim id fun z => z ▸ h⟩
  · rw [List.mem_append, List.mem_singleton, eq_comm (a := k)]
theorem z7i (s p : Nat) (rows : List (List Int)) : yC rows s p = z1d s p rows := by
  refine snoc_ind (P := fun rows => yC rows s p = z1d s p rows) rfl (fun l a ih => ?_) rows;have e : jA s (l ++ [a]) = if a.getD s 0 ∈ jA s l then jA s l else jA s l ++ [a.getD s 0] := by unfold jA; rw [List.foldl_append]; rfl
  have eg : yC (l ++ [a]) s p = z0F (yC l s p) (a.getD s 0) (a.getD p 0) := by unfold yC; rw [List.foldl_append]; rfl
  generalize hk : a.getD s 0 = k at e eg;have f1 : ∀ k', yA s p (l ++ [a]) k' = z03 k (a.getD p 0) (yA s p l k') := fun k' => by
    unfold yA z03;rw [List.filter_append];by_cases h : k' = k
    · subst h;rw [show [a].filter (fun r => decide (r.getD s 0 = k')) = [a] from List.filter_cons_of_pos (decide_eq_true hk)];simp
    · rw [show [a].filter (fun r => decide (r.getD s 0 = k')) = [] from List.filter_cons_of_neg (by rw [decide_eq_true_eq, hk]; exact fun z => h z.symm)];simp [h]
  have f2 : ((z1d s p l).any fun m => decide (m.getD 0 0 = k)) = decide (k ∈ jA s l) := by
    unfold z1d;rw [List.any_map, Bool.eq_iff_iff, List.any_eq_true, decide_eq_true_eq];constructor
    · rintro ⟨x, hx, h⟩;have : x = k := by simpa [yA] using h
      exact this ▸ hx
    · exact fun h => ⟨k, h, by simp [yA]⟩
  rw [eg, ih];unfold z0F;rw [f2];unfold z1d;rw [e, List.map_map];have f3 : (jA s l).map (z03 k (a.getD p 0) ∘ yA s p l) = (jA s l).map (yA s p (l ++ [a])) := List.map_congr_left fun x _ => (f1 x).symm
  rw [f3];by_cases h : k ∈ jA s l
  · rw [if_pos h, if_pos (decide_eq_true h), List.append_nil]
  · rw [if_neg h, if_neg (by simpa using h), List.map_append]
    congr 1
    show [[k, 1, a.getD p 0]] = [yA s p (l ++ [a]) k]
    rw [f1];have hz : l.filter (fun r => decide (r.getD s 0 = k)) = [] := List.filter_eq_nil_iff.mpr fun r hr z => h ((z5M s l k).mpr ⟨r, hr, by simpa using z⟩)
    unfold yA z03;rw [hz];simp
theorem z7C {hq hr : List Str} {a b : Str} {rows others : List (List Int)} (ha : a ∈ hq) (hb : b ∈ hr) (dj : ∀ n ∈ hq, n ∉ hr) (hrow : ∀ x ∈ rows, x.length = hq.length) :
    joinR rows others (hq.idxOf a) (hr.idxOf b) = (pairs rows others).filter fun z => decide (z.getD ((hq ++ hr).idxOf a) 0 = z.getD ((hq ++ hr).idxOf b) 0) := by
  have ia : (hq ++ hr).idxOf a = hq.idxOf a := by rw [List.idxOf_append, if_pos ha]
  have ib : (hq ++ hr).idxOf b = hr.idxOf b + hq.length := by rw [List.idxOf_append, if_neg fun z => dj b z hb]
  have la : hq.idxOf a < hq.length := List.idxOf_lt_length_iff.mpr ha;unfold joinR pairs;rw [List.filter_flatMap];have fm : ∀ (l : List (List Int)) (f g : List Int → List (List Int)), (∀ x ∈ l, f x = g x) → l.flatMap f = l.flatMap g := fun l f g h => by
    induction l with
    | nil => rfl
    | cons x l ih => rw [List.flatMap_cons, List.flatMap_cons, h x List.mem_cons_self, ih fun y hy => h y (List.mem_cons_of_mem _ hy)]
  refine fm _ _ _ fun x hx => ?_
  rw [List.filter_map]
  congr 1
  refine List.filter_congr fun y _ => ?_
  have lx := hrow x hx
  show _ = decide ((x ++ y).getD _ 0 = (x ++ y).getD _ 0)
  rw [ia, ib, List.getD_eq_getElem?_getD (l := x ++ y), List.getD_eq_getElem?_getD (l := x ++ y), List.getElem?_append_left (by omega), List.getElem?_append_right (by omega), lx, Nat.add_sub_cancel, ← List.getD_eq_getElem?_getD, ← List.getD_eq_getElem?_getD]
theorem z98 {s : Nat} {rows L : List (List Int)} (h : z7I s rows L) : L = z0L s rows := by
  obtain ⟨is, hp, rfl, pw⟩ := h;unfold z0L;rw [← z2h hp (pw.imp fun {i j} z => decide_eq_true (by unfold z4P; omega))]
section
variable {th : Str → List Str} {tr : Str → List (List Int)}
theorem jt (T : TabOk th tr) : ∀ {q : Qn}, wfQ th q → ∀ r ∈ rowsOf th tr q, r.length = (zc th q).length
  | .table n, h => fun r m => T.rl n h r m
  | .pick c q, h => fun r m => jt T (q := q) h.2.2 r (List.mem_filter.mp m).1
  | .cols ns q, h => fun r m => by
    obtain ⟨x, _, rfl⟩ := List.mem_map.mp m;rw [List.length_map]; rfl
  | .pair q s, h => fun r m => by
    obtain ⟨x, hx, y, hy, rfl⟩ := z0R m
    show _ = (zc th q ++ zc th s).length
    rw [List.length_append, List.length_append, jt T (q := q) h.2.2.1 x hx, jt T (q := s) h.2.2.2 y hy]
  | .join a b q s, h => fun r m => by
    obtain ⟨x, hx, y, hy, rfl⟩ := z0R (List.mem_filter.mp m).1
    show _ = (zc th q ++ zc th s).length
    rw [List.length_append, List.length_append, jt T (q := q) h.2.2.2.2.1 x hx, jt T (q := s) h.2.2.2.2.2 y hy]
  | .both q s, h => fun r m => by
    rcases List.mem_append.mp m with m | m
    · exact jt T (q := q) h.2.1 r m
    · have := jt T (q := s) h.2.2 r m;rw [← h.1] at this;exact this
  | .first n q, h => fun r m => jt T (q := q) h.2 r (List.mem_of_mem_take m)
  | .group a b n s q, h => fun r m => by
    obtain ⟨x, _, rfl⟩ := List.mem_map.mp m
    rfl
  | .sort a q, h => fun r m => jt T (q := q) h.2 r (z41 m)
theorem z2e : ∀ {q : Qn}, yQ th tr q → (rowsOf th tr q).length ≤ 60
  | .table n, h => h
  | .pick c q, h => Nat.le_trans (List.length_filter_le _ _) (z2e (q := q) h)
  | .cols ns q, h => by show (List.map _ _).length ≤ 60; rw [List.length_map]; exact z2e (q := q) h
  | .pair q r, h => by show (pairs _ _).length ≤ 60; rw [pairs_len]; exact h.2.2
  | .join a b q r, h => Nat.le_trans (List.length_filter_le _ _) (by rw [pairs_len]; exact h.2.2)
  | .both q r, h => by show (rowsOf th tr q ++ rowsOf th tr r).length ≤ 60; rw [List.length_append]; exact h.2.2
  | .first n q, h => by show (List.take _ _).length ≤ 60; rw [List.length_take]; have := z2e (q := q) h; omega
  | .group a b n s q, h => by show (List.map _ _).length ≤ 60; rw [List.length_map]; exact Nat.le_trans (z21 _) (z2e (q := q) h)
  | .sort a q, h => by show (z0L _ _).length ≤ 60; rw [z29]; exact z2e (q := q) h
theorem jU : ∀ {q : Qn}, yQ th tr q → ∀ r ∈ post q, yQ th tr r
  | .table n, h => fun r m => by rw [List.mem_singleton.mp m]; exact h
  | .pick c q, h => fun r m => (List.mem_append.mp m).elim (jU (q := q) h r) fun m => by rw [List.mem_singleton.mp m]; exact h
  | .cols ns q, h => fun r m => (List.mem_append.mp m).elim (jU (q := q) h r) fun m => by rw [List.mem_singleton.mp m]; exact h
  | .pair q s, h => fun r m => (List.mem_append.mp m).elim (fun m => (List.mem_append.mp m).elim (jU (q := q) h.1 r) (jU (q := s) h.2.1 r)) fun m => by rw [List.mem_singleton.mp m]; exact h
  | .join a b q s, h => fun r m => (List.mem_append.mp m).elim (fun m => (List.mem_append.mp m).elim (jU (q := q) h.1 r) (jU (q := s) h.2.1 r)) fun m => by rw [List.mem_singleton.mp m]; exact h
  | .both q s, h => fun r m => (List.mem_append.mp m).elim (fun m => (List.mem_append.mp m).elim (jU (q := q) h.1 r) (jU (q := s) h.2.1 r)) fun m => by rw [List.mem_singleton.mp m]; exact h
  | .first n q, h => fun r m => (List.mem_append.mp m).elim (jU (q := q) h r) fun m => by rw [List.mem_singleton.mp m]; exact h
  | .group a b n s q, h => fun r m => (List.mem_append.mp m).elim (jU (q := q) h r) fun m => by rw [List.mem_singleton.mp m]; exact h
  | .sort a q, h => fun r m => (List.mem_append.mp m).elim (jU (q := q) h r) fun m => by rw [List.mem_singleton.mp m]; exact h
end

noncomputable def z8F (K : PySem.W.Frag) : Sp := fun vs H Q _ => ∃ (th : Str → List Str) (tr : Str → List (List Int)) (tp : Addr) (n : Str), vs = [.ref tp, .str n] ∧ jP th tr H tp ∧ n ∈ tabs ∧ ∀ (rp : Addr) (rs : List (Addr × List Int)) (H' : Hp), zF H H' → RowsAt H' rp rs → rs.map (·.2) = tr n → Q (.ref rp) H'
theorem z20 : FnScope ["tables", "name"] ["tables", "name"] (zl yd) := ⟨rfl, rfl, rfl, by decide +kernel, rfl, by decide +kernel, by decide +kernel⟩
theorem z1J (F : Fun K "rows_of_table" "rows_of_table" yd f fd) (T : Txt K mg) : FnOk P w K mg base CX0 1 f fd ["tables", "name"] (z8F K) := by
  refine F.ok z20 (fun vs H Q E h => ?_) (fun cdv A outer s H vs Q E hr h => ?_)
  · obtain ⟨th, tr, tp, n, rfl, _⟩ := h
    rfl
  obtain ⟨th, tr, tp, n, rfl, h4, hn, fin⟩ := h;obtain ⟨vs, hvs, l4, at4⟩ := z1x h4;obtain ⟨j, hj, ej⟩ := z6o hn;obtain ⟨vj, hvj, pj, hpj, rpj, rsj, evj, tj1, tj2, tj3, tj4⟩ := at4 j hj;have uniq : ∀ i, i < 4 → tabs.getD i "" = n → i = j := fun i hi e => by
    rw [← ej] at e;have u : ∀ i, i < 4 → ∀ j, j < 4 → tabs.getD i "" = tabs.getD j "" → i = j := by decide +kernel
    exact u i hi j hj e
  rw [ej] at tj1 tj2 tj4;refine ⟨_, (zg (zB (zh zz (jR rfl (CompSc.of (sx := zl yd) (NX := ["tables", "name"]) (fr := ["name"]) (ix := [1]) rfl rfl (by decide +kernel)) (zX (pv 0)) (fun _ _ _ _ _ _ => (z1j (zw zT (zh (kw (K := K) rfl) (pv 0) za (fun _ _ => rfl)) (pv 1) (zC _)))) (fun _ _ _ _ _ _ => (zh (kw (K := K) rfl) (pv 0) za (fun _ _ => rfl)))) za (fun _ _ => rfl)))), ?_⟩;refine ⟨_, rfl, tp, rfl, ⟨_, SqL.of hvs⟩, ?_⟩;refine z02 (xs := vs) (fun i ys H' => H' = H ∧ ys = if j < i then [.ref rpj] else []) ⟨rfl, by rw [if_neg (Nat.not_lt_zero _)]⟩ ?_ ?_ ?_
  · rintro i ys H' hi ⟨rfl, rfl⟩;exact ⟨SqL.of hvs, zH (by split <;> simp)⟩
  · rintro i x ys H' hi ⟨rfl, rfl⟩;have hi4 : i < 4 := by rw [← l4]; exact (List.getElem?_eq_some_iff.mp hi).1
    obtain ⟨v, hv, p, hp, rp, rs, rfl, t1, t2, t3, t4⟩ := at4 i hi4;rw [hi] at hv;cases hv;refine ⟨_, rfl, p, _, _, _, rfl, rfl, SqT.of t1, zQ, _, rfl, rfl, _, rfl, ?_⟩;by_cases e : tabs.getD i "" = n
    · refine ifT (by rw [yk]; exact decide_eq_true e) ?_;have eij := uniq i hi4 e;subst eij;rw [hi] at hvj;cases hvj;cases evj;refine ⟨_, rfl, _, _, _, _, rfl, rfl, SqT.of tj1, jx, rfl, ?_⟩;rw [if_neg (Nat.lt_irrefl _), if_pos (Nat.lt_succ_self _)]
      rfl
    · refine ifF (by rw [yk]; exact decide_eq_false e) ?_;refine ⟨rfl, ?_⟩;have : i ≠ j := fun z => e (by rw [z]; exact ej)
      by_cases h : j < i
      · rw [if_pos h, if_pos (by omega)]
      · rw [if_neg h, if_neg (by omega)]
  · rintro ys H' ⟨rfl, rfl⟩ np hnp;rw [l4, if_pos hj];refine zf (upd _ np _) rfl hnp fun H1 n1 x1 => ?_
    exact ⟨np, _, _, _, rfl, rfl, SqL.of x1, zQ, fin rpj rsj H1 n1 (tj3.same n1) tj4⟩
noncomputable def z5Y (K : PySem.W.Frag) : Sp := fun vs H Q _ => ∃ (rp sp : Addr) (xs : List Int) (is : List Nat), vs = [.ref rp, .ref sp] ∧ SqL K H rp (xs.map V.int) ∧ SqL K H sp (is.map fun i : Nat => V.int (i : Int)) ∧ (∀ i ∈ is, i < xs.length) ∧ is.length ≤ 1000 ∧
  ∀ (p : Addr) (H' : Hp), zF H H' → H p = none → H' p = some (.lst ((is.map fun i => xs.getD i 0).map V.int)) → Q (.ref p) H'
theorem z3w : FnScope ["row", "spots"] ["row", "spots"] (zl yY) := ⟨rfl, rfl, rfl, by decide +kernel, rfl, by decide +kernel, by decide +kernel⟩
theorem z3t (F : Fun K "numbers_at" "numbers_at" yY f fd) (T : Txt K mg) : FnOk P w K mg base CX0 1 f fd ["row", "spots"] (z5Y K) := by
  refine F.ok z3w (fun vs H Q E h => ?_) (fun cdv A outer s H vs Q E hr h => ?_)
  · obtain ⟨rp, sp, xs, is, rfl, _⟩ := h
    rfl
  obtain ⟨rp, sp, xs, is, rfl, hr1, hs1, hin, hl, fin⟩ := h;refine ⟨_, (zg (zB (jR rfl (CompSc.of (sx := zl yY) (NX := ["row", "spots"]) (fr := ["row"]) (ix := [0]) rfl rfl (by decide +kernel)) (zX (pv 1)) (fun _ _ _ _ _ _ => jr) (fun _ _ _ _ _ _ => (zh (yj (K := K) rfl) (pv 1) (pv 0) (fun _ _ => rfl)))))), ?_⟩;refine ⟨_, rfl, sp, rfl, ⟨_, hs1⟩, ?_⟩;refine jD (xs := is.map fun i : Nat => V.int (i : Int)) (fun i ys H' => H' = H ∧ ys = ((is.take i).map fun i => xs.getD i 0).map V.int) ⟨rfl, rfl⟩ ?_ ?_ ?_
  · rintro i ys H' hi ⟨rfl, rfl⟩;exact ⟨hs1, zH (by rw [List.length_map, List.length_map, List.length_take]; omega)⟩
  · rintro i x ys H' hi ⟨rfl, rfl⟩;have hii : i < is.length := by
      have := (List.getElem?_eq_some_iff.mp hi).1
      rwa [List.length_map] at this
    rw [List.getElem?_map, List.getElem?_eq_getElem hii] at hi;cases hi;refine ⟨_, rfl, _, rfl, rp, _, _, _, rfl, rfl, hr1, zW (int_at (hin _ (List.getElem_mem hii))), rfl, ?_⟩;rw [List.take_add_one, List.getElem?_eq_getElem hii, List.map_append, List.map_append]
    rfl
  · rintro ys H' ⟨rfl, rfl⟩ np hnp;rw [List.length_map, List.take_length];refine zf (upd _ np _) rfl hnp fun H1 n1 x1 => ?_
    exact fin np H1 n1 hnp x1
noncomputable def z36 (K : PySem.W.Frag) : Sp := fun vs H Q _ => ∃ (a b : Addr) (rs os : List (Addr × List Int)), vs = [.ref a, .ref b] ∧ RowsAt H a rs ∧ RowsAt H b os ∧ rs.length * os.length ≤ 60 ∧ os.length ≤ 60 ∧ (∀ r ∈ rs, r.2.length ≤ 100) ∧ (∀ r ∈ os, r.2.length ≤ 100) ∧
  ∀ (p : Addr) (qs : List (Addr × List Int)) (H' : Hp), zF H H' → RowsAt H' p qs → qs.map (·.2) = pairs (rs.map (·.2)) (os.map (·.2)) → Q (.ref p) H'
theorem z1Z : FnScope ["rows", "others", "found", "row"] ["rows", "others"] (zl z0H) := ⟨rfl, rfl, rfl, by decide +kernel, rfl, by decide +kernel, by decide +kernel⟩
theorem z7n (F : Fun K "paired" "paired" z0H f fd) (T : Txt K mg) : FnOk P w K mg base CX0 1 f fd ["rows", "others"] (z36 K) := by
  refine F.ok z1Z (fun vs H Q E h => ?_) (fun cdv A outer s H vs Q E hr h => ?_)
  · obtain ⟨a, b, rs, os, rfl, _⟩ := h
    rfl
  obtain ⟨a, b, rs, os, rfl, ha, hb, hlen, ho60, hrl, hol, fin⟩ := h;refine ⟨_, (zd (zo (i := 2) z1Z.nd rfl (Or.inl rfl) (zI ze))
    (zd (jH PassesOwn.never rfl (zX (pv 0)) (jf (i := 3) z1Z.nd rfl (Or.inr rfl))
      (zg (jc (jF PySem.F.plainAttrs_list PySem.F.slot_list_extend PySem.F.type_list_extend z47 (pv 2) (z1g (jR rfl (CompSc.of (sx := zl z0H) (NX := ["rows", "others", "found", "row"]) (fr := ["row"]) (ix := [3]) rfl rfl (by decide +kernel)) (zX (pv 1)) (fun _ _ _ _ _ _ => jr) (fun _ _ _ _ _ _ => (zp yS (pv 1) (pv 0)))) ze)))))
    (zg (zB (pv 2))))), ?_⟩
  refine ⟨zq (by show 0 ≤ _; decide), fun fp hfp => ?_⟩;refine zf (upd _ fp _) rfl hfp fun H1 n1 x1 => ?_
  have hlr : (refs rs).length = rs.length := List.length_map _;have hlo : (refs os).length = os.length := List.length_map _;refine ⟨_, rfl, a, rfl, ⟨_, SqL.of (n1 _ _ ha.1)⟩, jT (xs := refs rs) (fun i σ H' => ∃ (qs : List (Addr × List Int)) (o3 : Option V), σ = [some (.ref a), some (.ref b), some (.ref fp), o3] ∧ zF H H' ∧ RowsAt H' fp qs ∧ qs.map (·.2) = pairs ((rs.take i).map (·.2)) (os.map (·.2)))
    ⟨[], none, rfl, n1, yi x1, rfl⟩ ?_ ?_ ?_⟩
  · rintro i σ H' _ ⟨qs, o3, rfl, s', _⟩;exact SqL.of (s' _ _ ha.1)
  · rintro i x σ H' hi ⟨qs, o3, rfl, s2, hq, eq⟩;have hir : i < rs.length := by
      have := (List.getElem?_eq_some_iff.mp hi).1
      rwa [hlr] at this
    rw [jO hir] at hi;cases hi;have hrow := (ha.2 _ (List.getElem_mem hir)).2;have hrln := hrl _ (List.getElem_mem hir);have lq : qs.length = i * os.length := by
      have := congrArg List.length eq;rw [List.length_map, pairs_len, List.length_map, List.length_map, List.length_take] at this;rw [this, Nat.min_eq_left (by omega)]
    have lq2 : qs.length + os.length ≤ 60 := by
      have h1 : (i + 1) * os.length ≤ rs.length * os.length := Nat.mul_le_mul_right _ (by omega);rw [Nat.add_mul, Nat.one_mul] at h1;omega
    refine ⟨_, rfl, .inl ⟨rfl, _, SqL.of hq.1⟩, _, rfl, b, rfl, ⟨_, SqL.of (s2 _ _ hb.1)⟩, ?_⟩;refine jD (xs := refs os) (fun j ys H3 => zF H' H3 ∧ ∃ ps : List (Addr × List Int), ys = refs ps ∧ (∀ p ∈ ps, H' p.1 = none ∧ H3 p.1 = some (.lst (p.2.map V.int))) ∧ ps.map (·.2) = (os.take j).map fun y => rs[i].2 ++ y.2) ⟨zF.refl _, [], rfl, fun _ z => (nomatch z), rfl⟩ ?_ ?_ ?_
    · rintro j ys H3 hj ⟨s3, ps, rfl, hps, e⟩;refine ⟨SqL.of (s3 _ _ (s2 _ _ hb.1)), zH ?_⟩;have := congrArg List.length e;rw [List.length_map, List.length_map, List.length_take] at this;rw [List.length_map];omega
    · rintro j y ys H3 hj ⟨s3, ps, rfl, hps, e⟩;have hjo : j < os.length := by
        have := (List.getElem?_eq_some_iff.mp hj).1
        rwa [hlo] at this
      rw [jO hjo] at hj;cases hj;have hoy := (hb.2 _ (List.getElem_mem hjo)).2;have holn := hol _ (List.getElem_mem hjo);refine ⟨_, rfl, _, rfl, rs[i].1, os[j].1, _, _, rfl, rfl, s3 _ _ (s2 _ _ hrow), s3 _ _ (s2 _ _ hoy), zq (by rw [List.length_map, List.length_map]; omega), fun np hnp => ?_⟩;refine zf (upd _ np _) rfl hnp fun H4 n4 x4 => ?_
      rw [← List.map_append] at x4;refine ⟨s3.trans n4, ps ++ [(np, rs[i].2 ++ os[j].2)], by simp [refs], fun p hp => ?_, ?_⟩
      · rcases List.mem_append.mp hp with hp | hp
        · exact ⟨(hps p hp).1, n4 _ _ (hps p hp).2⟩
        · rw [List.mem_singleton.mp hp];exact ⟨s3.free hnp, x4⟩
      · rw [List.map_append, e, List.take_add_one, List.getElem?_eq_getElem hjo, List.map_append]
        rfl
    · rintro ys H3 ⟨s3, ps, rfl, hps, e⟩ cp hcp;rw [hlo, List.take_length] at e;refine zf (upd _ cp _) rfl hcp fun H4 n4 x4 => ?_
      have s34 := s3.trans n4;have hq4 := hq.same s34;have lps : ps.length = os.length := by
        have := congrArg List.length e
        rwa [List.length_map, List.length_map] at this
      refine ⟨fp, cp, _, _, rfl, rfl, hq4.1, x4, zq (by rw [List.length_map, List.length_map]; omega), ?_⟩;refine ⟨qs ++ ps, _, rfl, (s2.trans s34).put hfp, ⟨by rw [zm]; simp [refs], fun r m => ?_⟩, ?_⟩
      · rcases List.mem_append.mp m with m | m
        · exact ⟨(hq4.2 r m).1, by rw [zt (hq4.2 r m).1]; exact (hq4.2 r m).2⟩
        · have hp1 := hps r m;have nf : r.1 ≠ fp := fun z => by
            have := hp1.1;rw [z, hq.1] at this;cases this
          exact ⟨nf, by rw [zt nf]; exact n4 _ _ hp1.2⟩
      · have hrs : (rs.map (·.2))[i]? = some rs[i].2 := z0q hir;rw [List.map_append, eq, e, List.map_take, List.map_take, z2P hrs, List.map_map]
        rfl
  · rintro σ H' ⟨qs, o3, rfl, s', hq, eq⟩;rw [hlr, List.take_length] at eq;exact ⟨_, rfl, fin fp qs H' s' hq eq⟩

noncomputable def zad (K : PySem.W.Frag) (T1 T2 T3 : Addr) : Sp := fun vs H Q _ => ∃ (th : Str → List Str) (tr : Str → List (List Int)) (q r : Qn) (v : V) (hp rp : Addr) (rs : List (Addr × List Int)), vs = [v, .ref hp, .ref rp] ∧ TabOk th tr ∧ QAt H q v ∧ kids q = [r] ∧ wfQ th q ∧ wfQ th r ∧ H hp = some (.lst ((zc th r).map V.str)) ∧ RowsAt H rp rs ∧ rs.map (·.2) = rowsOf th tr r ∧
  (rowsOf th tr r).length ≤ 60 ∧ Ls T1 T2 T3 H ∧ ∀ (p : Addr) (qs : List (Addr × List Int)) (H' : Hp), Nt H H' → Ls T1 T2 T3 H' → RowsAt H' p qs → qs.map (·.2) = rowsOf th tr q → Q (.ref p) H'
theorem kj : FnScope ["question", "heads", "rows", "word", "spots"] ["question", "heads", "rows"] (zl jv) := ⟨rfl, rfl, rfl, by decide +kernel, rfl, by decide +kernel, by decide +kernel⟩
theorem z1W {T1 T2 T3 : Addr} (F : Fun K "rows_over_one" "rows_over_one" jv f fd) (T : Txt K mg) (Cholds : Kn P w K mg base 3 "holds" ["condition", "heads", "row"] (z4c K)) (Cnumbers_at : Kn P w K mg base 1 "numbers_at" ["row", "spots"] (z5Y K)) (Cgrouped : Kn P w K mg base 2 "grouped" ["rows", "spot", "place"] (z27 K)) (Cin_order : Kn P w K mg base 3 "in_order" ["rows", "spot"] (z4z K T3)) : FnOk P w K mg base CX0 4 f fd ["question", "heads", "rows"] (zad K T1 T2 T3) := by
  refine F.ok kj (fun vs H Q E h => ?_) (fun cdv A outer s H vs Q E hr h => ?_)
  · obtain ⟨th, tr, q, r, v, hp, rp, rs, rfl, _⟩ := h
    rfl
  obtain ⟨th, tr, q, r, v, hp, rp, rs, rfl, TT, hq, hk, wf, wfr, hh, hR, eR, h60, hL, fin⟩ := h;refine ⟨_, (zd (zo (i := 3) kj.nd rfl (Or.inl rfl) (zh zj (pv 0) za (fun _ _ => rfl)))
    (zd (zO (zw zT (pv 3) zn (zC _))
      (zg (zB (jR rfl (CompSc.of (sx := zl jv) (NX := ["question", "heads", "rows", "word", "spots"]) (fr := ["question", "heads"]) (ix := [0, 1]) rfl rfl (by decide +kernel)) (zX (pv 2)) (fun _ _ _ _ _ _ => (z1j (yl (zy Cholds hr.m rfl (zk (zh (kw (K := K) rfl) (pv 1) za (fun _ _ => rfl)) (zb (pv 2) (zb (pv 0) ze))))))) (fun _ _ _ _ _ _ => (pv 0)))))
      zE)
    (zd (zO (zw zT (pv 3) zn (zC _))
      (zd (zo (i := 4) kj.nd rfl (Or.inr rfl) (jR rfl (CompSc.of (sx := zl jv) (NX := ["question", "heads", "rows", "word", "spots"]) (fr := ["heads"]) (ix := [1]) rfl rfl (by decide +kernel)) (z1S (zh zj (pv 0) za (fun _ _ => rfl))) (fun _ _ _ _ _ _ => jr) (fun _ _ _ _ _ _ => (z8w (K := K) rfl PySem.F.plainAttrs_list PySem.F.slot_list_index PySem.F.type_list_index (z3L (K := K) rfl) (pv 1) (zb (pv 0) ze)))))
      (zg (zB (jR rfl (CompSc.of (sx := zl jv) (NX := ["question", "heads", "rows", "word", "spots"]) (fr := ["spots"]) (ix := [4]) rfl rfl (by decide +kernel)) (zX (pv 2)) (fun _ _ _ _ _ _ => jr) (fun _ _ _ _ _ _ => (zy Cnumbers_at hr.m rfl (zb (pv 0) (zb (pv 1) ze))))))))
      zE)
    (zd (zO (zw zT (pv 3) zn (zC _))
      (zg (zB (zy Cgrouped hr.m rfl (zb (pv 2) (zV (jF PySem.F.plainAttrs_list PySem.F.slot_list_index PySem.F.type_list_index jY (pv 1) (zk (zh zj (pv 0) za (fun _ _ => rfl)) ze)) (zV (jF PySem.F.plainAttrs_list PySem.F.slot_list_index PySem.F.type_list_index jY (pv 1) (zk (zh zj (pv 0) za (fun _ _ => rfl)) ze)) ze))))))
      zE)
    (zd (zO (zw zT (pv 3) zn (zC _))
      (zg (zB (zy Cin_order hr.m rfl (zb (pv 2) (zV (jF PySem.F.plainAttrs_list PySem.F.slot_list_index PySem.F.type_list_index jY (pv 1) (zk (zh zj (pv 0) za (fun _ _ => rfl)) ze)) ze)))))
      zE)
    (zg (zB (jn yy (pv 2) jS (jG (zh zj (pv 0) za (fun _ _ => rfl))))))))))), ?_⟩
  have no : ∀ {a b : Str}, a ≠ b → decide (V.str a = V.str b) = false := fun {a b} h => by rw [yk]; exact decide_eq_false h
  have yes : ∀ a : Str, decide (V.str a = V.str a) = true := fun a => decide_eq_true rfl
  have hlr : (refs rs).length = rs.length := List.length_map _;have hl60 : rs.length ≤ 60 := by rw [← eR, List.length_map] at h60; exact h60
  have hd := jk TT wfr;have hrl : ∀ x ∈ rs, x.2.length = (zc th r).length := fun x m => jt TT wfr x.2 (by rw [← eR]; exact List.mem_map.mpr ⟨x, m, rfl⟩)
  have hix : ∀ {n : Str}, n ∈ zc th r → ∀ x ∈ rs, (zc th r).idxOf n < x.2.length := fun {n} hn x m => by rw [hrl x m]; exact List.idxOf_lt_length_iff.mpr hn
  cases q with
  | table n => cases hk
  | pair a b => cases hk
  | join x y a b => cases hk
  | both a b => cases hk
  | pick c q' =>
    cases (show q' = r from (List.cons.inj hk).1);obtain ⟨p, x, y, rfl, h1, h2, h3⟩ := hq;refine ⟨_, rfl, p, _, _, _, rfl, rfl, SqT.of h1, zQ, ?_⟩;refine ⟨_, rfl, rfl, _, rfl, ?_⟩;refine ifT (yes _) ?_;refine ⟨_, rfl, rp, rfl, ⟨_, SqL.of hR.1⟩, ?_⟩;refine z02 (xs := refs rs) (fun i ys H' => zF H H' ∧ ys = refs ((rs.take i).filter fun z => ev (zc th r) z.2 c)) ⟨zF.refl _, rfl⟩ ?_ ?_ ?_
    · rintro i ys H' hi ⟨sm', rfl⟩;refine ⟨SqL.of (sm' _ _ hR.1), zH ?_⟩;have := List.length_filter_le (fun z : Addr × List Int => ev (zc th r) z.2 c) (rs.take i);rw [List.length_map];rw [List.length_take] at this;omega
    · rintro i z ys H' hi ⟨sm', rfl⟩;have hir : i < rs.length := by
        have := (List.getElem?_eq_some_iff.mp hi).1
        rwa [hlr] at this
      rw [jO hir] at hi;cases hi;refine ⟨_, rfl, p, _, _, _, rfl, rfl, SqT.of (sm' _ _ h1), jd, _, rfl, _, rfl, c, x, hp, rs[i].1, zc th r, rs[i].2, rfl, h2.same sm', wf.1, by have := wf.2.1; omega, SqL.of (sm' _ _ hh), SqL.of (sm' _ _ (hR.2 _ (List.getElem_mem hir)).2), (hrl _ (List.getElem_mem hir)).symm, fun H3 s3 => ⟨_, rfl, ?_⟩⟩;have ft := z0e (fun z : Addr × List Int => ev (zc th r) z.2 c) rs (List.getElem?_eq_getElem hir);cases hev : ev (zc th r) rs[i].2 c with
      | true =>
        refine ifT rfl ?_;refine ⟨_, rfl, sm'.trans s3, ?_⟩;rw [ft, hev, if_pos rfl];simp [refs]
      | false =>
        refine ifF rfl ?_;refine ⟨sm'.trans s3, ?_⟩;rw [ft, hev];simp
    · rintro ys H' ⟨sm', rfl⟩ np hnp;rw [hlr, List.take_length];refine zf (upd _ np _) rfl hnp fun H2 n2 x2 => ?_
      have s2 := sm'.trans n2;refine fin np _ H2 (Nt.of s2) (hL.same s2) (jX hnp n2 x2 fun r m => sm' _ _ (hR.2 r (List.mem_filter.mp m).1).2) ?_
      show _ = (rowsOf th tr r).filter _
      rw [← eR, List.filter_map]
      rfl
  | cols ns q' =>
    cases (show q' = r from (List.cons.inj hk).1);obtain ⟨p, x, y, rfl, h1, h2, h3⟩ := hq;have wns := wf.2.1;have hns : ns.length ≤ 100 := Nat.le_trans (z8h wf.1 wns) hd.2;refine ⟨_, rfl, p, _, _, _, rfl, rfl, SqT.of h1, zQ, ?_⟩;refine ⟨_, rfl, rfl, _, rfl, ?_⟩;refine ifF (no (by decide +kernel)) ?_;refine ⟨_, rfl, rfl, _, rfl, ?_⟩;refine ifT (yes _) ?_;refine ⟨_, rfl, p, _, _, _, rfl, rfl, SqT.of h1, jd, x, rfl, ⟨_, SqT.of h2⟩, ?_⟩;refine z1U (xs := ns.map V.str) (fun i ys H' => H' = H ∧ ys = ((ns.take i).map fun n => (zc th r).idxOf n).map fun i : Nat => V.int (i : Int)) ⟨rfl, rfl⟩ ?_ ?_ ?_
    · rintro i ys H' hi ⟨rfl, rfl⟩;exact ⟨SqT.of h2, zH (by rw [List.length_map, List.length_map, List.length_take]; omega)⟩
    · rintro i z ys H' hi ⟨rfl, rfl⟩;have hin : i < ns.length := by
        have := (List.getElem?_eq_some_iff.mp hi).1
        rwa [List.length_map] at this
      rw [List.getElem?_map, List.getElem?_eq_getElem hin] at hi;cases hi;have hi0 := j9 (wns _ (List.getElem_mem hin));refine ⟨_, rfl, .inl ⟨rfl, _, SqL.of hh⟩, _, rfl, hp, _, _, (zc th r).idxOf ns[i], rfl, rfl, SqL.of hh, rfl, zU _, hi0.1, hi0.2, rfl, ?_⟩;rw [List.take_add_one, List.getElem?_eq_getElem hin, List.map_append, List.map_append]
      rfl
    · rintro ys H' ⟨rfl, rfl⟩ sp hsp;rw [List.length_map, List.take_length];refine zf (upd _ sp _) rfl hsp fun H1 n1 x1 => ?_
      have hR1 := hR.same n1;refine ⟨_, rfl, rp, rfl, ⟨_, SqL.of hR1.1⟩, ?_⟩;refine jD (xs := refs rs) (fun j ys H3 => zF H1 H3 ∧ ∃ ps : List (Addr × List Int), ys = refs ps ∧ (∀ p ∈ ps, H1 p.1 = none ∧ H3 p.1 = some (.lst (p.2.map V.int))) ∧ ps.map (·.2) = (rs.take j).map fun z => ns.map fun n => z.2.getD ((zc th r).idxOf n) 0) ⟨zF.refl _, [], rfl, fun _ z => (nomatch z), rfl⟩ ?_ ?_ ?_
      · rintro j ys H3 hj ⟨s3, ps, rfl, hps, e⟩;refine ⟨SqL.of (s3 _ _ hR1.1), zH ?_⟩;have := congrArg List.length e;rw [List.length_map, List.length_map, List.length_take] at this;rw [List.length_map];omega
      · rintro j z ys H3 hj ⟨s3, ps, rfl, hps, e⟩;have hjr : j < rs.length := by
          have := (List.getElem?_eq_some_iff.mp hj).1
          rwa [hlr] at this
        rw [jO hjr] at hj;cases hj;have hm := List.getElem_mem hjr;refine ⟨_, rfl, _, rfl, rs[j].1, sp, rs[j].2, ns.map fun n => (zc th r).idxOf n, rfl, SqL.of (s3 _ _ (hR1.2 _ hm).2), SqL.of (s3 _ _ x1), fun i m => ?_, by rw [List.length_map]; omega, fun np H4 n4 fnp x4 => ?_⟩
        · obtain ⟨n, hn, rfl⟩ := List.mem_map.mp m;exact hix (wns n hn) _ hm
        · refine ⟨s3.trans n4, ps ++ [(np, ns.map fun n => rs[j].2.getD ((zc th r).idxOf n) 0)], by simp [refs], fun p hp => ?_, ?_⟩
          · rcases List.mem_append.mp hp with hp | hp
            · exact ⟨(hps p hp).1, n4 _ _ (hps p hp).2⟩
            · rw [List.mem_singleton.mp hp];refine ⟨s3.free fnp, ?_⟩;have e5 : ((ns.map fun n => (zc th r).idxOf n).map fun i => rs[j].2.getD i 0) = ns.map fun n => rs[j].2.getD ((zc th r).idxOf n) 0 := List.map_map
              rw [e5] at x4;exact x4
          · rw [List.map_append, e, List.take_add_one, List.getElem?_eq_getElem hjr, List.map_append]
            rfl
      · rintro ys H3 ⟨s3, ps, rfl, hps, e⟩ np hnp;rw [hlr, List.take_length] at e;refine zf (upd _ np _) rfl hnp fun H4 n4 x4 => ?_
        have s4 := n1.trans (s3.trans n4);refine fin np ps H4 (Nt.of s4) (hL.same s4) (jX hnp n4 x4 fun r m => (hps r m).2) ?_
        show _ = (rowsOf th tr r).map _
        rw [e, ← eR, List.map_map]
        rfl
  | group a b n s q' =>
    cases (show q' = r from (List.cons.inj hk).1);obtain ⟨p, y, rfl, h1, h3⟩ := hq;refine ⟨_, rfl, p, _, _, _, rfl, rfl, SqT.of h1, zQ, ?_⟩;refine ⟨_, rfl, rfl, _, rfl, ?_⟩;refine ifF (no (by decide +kernel)) ?_;refine ⟨_, rfl, rfl, _, rfl, ?_⟩;refine ifF (no (by decide +kernel)) ?_;refine ⟨_, rfl, rfl, _, rfl, ?_⟩;refine ifT (yes _) ?_;have ia := j9 wf.1;have ib := j9 wf.2.1;refine ⟨_, rfl, _, rfl, .inl ⟨rfl, _, SqL.of hh⟩, _, rfl, p, _, _, _, rfl, rfl, SqT.of h1, jd, hp, _, _, (zc th r).idxOf a, rfl, rfl, SqL.of hh, rfl, zU _, ia.1, ia.2, _, rfl, .inl ⟨rfl, _, SqL.of hh⟩, _, rfl, p, _, _, _, rfl, rfl, SqT.of h1, jx, hp, _, _, (zc th r).idxOf b, rfl, rfl, SqL.of hh, rfl, zU _, ib.1, ib.2, ?_⟩;refine ⟨rp, rs, _, _, rfl, hR, Int.natCast_nonneg _, Int.natCast_nonneg _, fun r m => ⟨hix wf.1 r m, hix wf.2.1 r m, by rw [hrl r m]; exact hd.2⟩, by omega, fun p qs H' s' hq' e => fin p qs H' (Nt.of s') (hL.same s') hq' ?_⟩;rw [e, eR, z7i]
    rfl
  | sort a q' =>
    cases (show q' = r from (List.cons.inj hk).1);obtain ⟨p, y, rfl, h1, h3⟩ := hq;refine ⟨_, rfl, p, _, _, _, rfl, rfl, SqT.of h1, zQ, ?_⟩;refine ⟨_, rfl, rfl, _, rfl, ?_⟩;refine ifF (no (by decide +kernel)) ?_;refine ⟨_, rfl, rfl, _, rfl, ?_⟩;refine ifF (no (by decide +kernel)) ?_;refine ⟨_, rfl, rfl, _, rfl, ?_⟩;refine ifF (no (by decide +kernel)) ?_;refine ⟨_, rfl, rfl, _, rfl, ?_⟩;refine ifT (yes _) ?_;have ia := j9 wf.1;refine ⟨_, rfl, _, rfl, .inl ⟨rfl, _, SqL.of hh⟩, _, rfl, p, _, _, _, rfl, rfl, SqT.of h1, jd, hp, _, _, (zc th r).idxOf a, rfl, rfl, SqL.of hh, rfl, zU _, ia.1, ia.2, ?_⟩;refine ⟨rp, rs, _, rfl, hR, Int.natCast_nonneg _, fun r m => ⟨hix wf.1 r m, by rw [hrl r m]; exact hd.2⟩, by omega, hL.c, fun p qs H' k' l' hq' e => fin p qs H' (z7V hL.c k') (hL.kp3 k' l') hq' ?_⟩;rw [z98 e, eR]
    rfl
  | first n q' =>
    cases (show q' = r from (List.cons.inj hk).1);obtain ⟨p, y, rfl, h1, h3⟩ := hq;refine ⟨_, rfl, p, _, _, _, rfl, rfl, SqT.of h1, zQ, ?_⟩;refine ⟨_, rfl, rfl, _, rfl, ?_⟩;refine ifF (no (by decide +kernel)) ?_;refine ⟨_, rfl, rfl, _, rfl, ?_⟩;refine ifF (no (by decide +kernel)) ?_;refine ⟨_, rfl, rfl, _, rfl, ?_⟩;refine ifF (no (by decide +kernel)) ?_;refine ⟨_, rfl, rfl, _, rfl, ?_⟩;refine ifF (no (by decide +kernel)) ?_;refine ⟨_, rfl, _, rfl, p, _, _, _, rfl, rfl, SqT.of h1, jd, _, rfl, rp, _, rfl, SqL.of hR.1, fun l hl => ?_⟩;rw [z0n wf.1, ← List.map_take];refine zf (upd _ l _) rfl hl fun H1 n1 x1 => ?_
    refine fin l (rs.take n.toNat) H1 (Nt.of n1) (hL.same n1) (jX hl n1 x1 fun r m => (hR.2 r (List.mem_of_mem_take m)).2) ?_
    show _ = (rowsOf th tr r).take _
    rw [← eR, List.map_take]
noncomputable def z1y (th : Str → List Str) (tr : Str → List (List Int)) (r : Qn) (v : V) (H : Hp) : Prop := ∃ (p hp rp : Addr) (rs : List (Addr × List Int)), v = .ref p ∧ H p = some (.tup [.ref hp, .ref rp]) ∧ H hp = some (.lst ((zc th r).map V.str)) ∧ RowsAt H rp rs ∧ rs.map (·.2) = rowsOf th tr r
theorem z1y.nt {th : Str → List Str} {tr : Str → List (List Int)} {r : Qn} {v : V} {H H' : Hp} (h : z1y th tr r v H) (k : Nt H H') : z1y th tr r v H' := by
  obtain ⟨p, hp, rp, rs, e, h1, h2, h3, h4⟩ := h;exact ⟨p, hp, rp, rs, e, k.tup h1, k.lst h2, h3.nt k, h4⟩
noncomputable def za4 (K : PySem.W.Frag) : Sp := fun vs H Q _ => ∃ (th : Str → List Str) (tr : Str → List (List Int)) (q r t : Qn) (v v1 v2 : V), vs = [v, v1, v2] ∧ TabOk th tr ∧ QAt H q v ∧ kids q = [r, t] ∧ wfQ th q ∧ wfQ th r ∧ wfQ th t ∧ z1y th tr r v1 H ∧ z1y th tr t v2 H ∧ yQ th tr q ∧ yQ th tr r ∧ yQ th tr t ∧
  ∀ (p : Addr) (qs : List (Addr × List Int)) (H' : Hp), zF H H' → RowsAt H' p qs → qs.map (·.2) = rowsOf th tr q → Q (.ref p) H'
theorem z1O : FnScope ["question", "first", "second"] ["question", "first", "second"] (zl yJ) := ⟨rfl, rfl, rfl, by decide +kernel, rfl, by decide +kernel, by decide +kernel⟩
theorem z1N (F : Fun K "rows_over_two" "rows_over_two" yJ f fd) (T : Txt K mg) (Cpaired : Kn P w K mg base 1 "paired" ["rows", "others"] (z36 K)) (Cjoined : Kn P w K mg base 1 "joined" ["rows", "others", "spot", "place"] (z3e K)) : FnOk P w K mg base CX0 2 f fd ["question", "first", "second"] (za4 K) := by
  refine F.ok z1O (fun vs H Q E h => ?_) (fun cdv A outer s H vs Q E hr h => ?_)
  · obtain ⟨th, tr, q, r, t, v, v1, v2, rfl, _⟩ := h
    rfl
  obtain ⟨th, tr, q, r, t, v, v1, v2, rfl, TT, hq, hk, wf, wfr, wft, a1, a2, sq, sr, st, fin⟩ := h;obtain ⟨p1, hp1, rp1, rs1, rfl, f1, g1, R1, e1⟩ := a1;obtain ⟨p2, hp2, rp2, rs2, rfl, f2, g2, R2, e2⟩ := a2;refine ⟨_, (zd (zO (zw zT (zh zj (pv 0) za (fun _ _ => rfl)) zn (zC _))
      (zg (zB (zp yS (zh zj (pv 1) za (fun _ _ => rfl)) (zh zj (pv 2) za (fun _ _ => rfl)))))
      zE)
    (zd (zO (zw zT (zh zj (pv 0) za (fun _ _ => rfl)) zn (zC _))
      (zg (zB (zy Cpaired hr.m rfl (zk (zh zj (pv 1) za (fun _ _ => rfl)) (zk (zh zj (pv 2) za (fun _ _ => rfl)) ze)))))
      zE)
    (zg (zB (zy Cjoined hr.m rfl (zk (zh zj (pv 1) za (fun _ _ => rfl)) (zk (zh zj (pv 2) za (fun _ _ => rfl)) (zV (jF PySem.F.plainAttrs_list PySem.F.slot_list_index PySem.F.type_list_index jY (zh zj (pv 1) za (fun _ _ => rfl)) (zk (zh zj (pv 0) za (fun _ _ => rfl)) ze)) (zV (jF PySem.F.plainAttrs_list PySem.F.slot_list_index PySem.F.type_list_index jY (zh zj (pv 2) za (fun _ _ => rfl)) (zk (zh zj (pv 0) za (fun _ _ => rfl)) ze)) ze))))))))), ?_⟩
  have no : ∀ {a b : Str}, a ≠ b → decide (V.str a = V.str b) = false := fun {a b} h => by rw [yk]; exact decide_eq_false h
  have yes : ∀ a : Str, decide (V.str a = V.str a) = true := fun a => decide_eq_true rfl
  have l1 : rs1.length = (rowsOf th tr r).length := by rw [← e1, List.length_map]
  have l2 : rs2.length = (rowsOf th tr t).length := by rw [← e2, List.length_map]
  have m1 := z2e sr;have m2 := z2e st;have d1 := jk TT wfr;have d2 := jk TT wft;have w1 : ∀ x ∈ rs1, x.2.length = (zc th r).length := fun x m => jt TT wfr x.2 (by rw [← e1]; exact List.mem_map.mpr ⟨x, m, rfl⟩)
  have w2 : ∀ x ∈ rs2, x.2.length = (zc th t).length := fun x m => jt TT wft x.2 (by rw [← e2]; exact List.mem_map.mpr ⟨x, m, rfl⟩)
  cases q with
  | table n => cases hk
  | pick c a => cases hk
  | cols ns a => cases hk
  | first n a => cases hk
  | sort n a => cases hk
  | group a b n s q => cases hk
  | both a b =>
    obtain ⟨rfl, z2⟩ := List.cons.inj hk;obtain ⟨rfl, _⟩ := List.cons.inj z2;obtain ⟨p, x, y, rfl, h1, h2, h3⟩ := hq;refine ⟨_, rfl, p, _, _, _, rfl, rfl, SqT.of h1, zQ, rfl, _, rfl, ?_⟩;refine ifT (yes _) ?_;refine ⟨_, rfl, p1, _, _, _, rfl, rfl, SqT.of f1, jd, _, rfl, p2, _, _, _, rfl, rfl, SqT.of f2, jd, rp1, rp2, _, _, rfl, rfl, R1.1, R2.1, zq (by rw [List.length_map, List.length_map]; omega), fun l hl => ?_⟩;refine zf (upd _ l _) rfl hl fun H1 n1 x1 => ?_
    refine fin l (rs1 ++ rs2) H1 n1 (jX hl n1 (by rw [x1]; simp [refs]) fun z m => ?_) (by rw [List.map_append, e1, e2]; rfl);rcases List.mem_append.mp m with m | m
    · exact (R1.2 z m).2
    · exact (R2.2 z m).2
  | pair a b =>
    obtain ⟨rfl, z2⟩ := List.cons.inj hk;obtain ⟨rfl, _⟩ := List.cons.inj z2;obtain ⟨p, x, y, rfl, h1, h2, h3⟩ := hq;refine ⟨_, rfl, p, _, _, _, rfl, rfl, SqT.of h1, zQ, rfl, _, rfl, ?_⟩;refine ifF (no (by decide +kernel)) ?_;refine ⟨_, rfl, p, _, _, _, rfl, rfl, SqT.of h1, zQ, rfl, _, rfl, ?_⟩;refine ifT (yes _) ?_;exact ⟨_, rfl, p1, _, _, _, rfl, rfl, SqT.of f1, jd, _, rfl, p2, _, _, _, rfl, rfl, SqT.of f2, jd, rp1, rp2, rs1, rs2, rfl, R1, R2, by rw [l1, l2]; exact sq.2.2, by omega, fun z m => by rw [w1 z m]; exact d1.2, fun z m => by rw [w2 z m]; exact d2.2, fun l qs H' s' hq' e => fin l qs H' s' hq' (by rw [e, e1, e2]; rfl)⟩
  | join c d a b =>
    obtain ⟨rfl, z2⟩ := List.cons.inj hk;obtain ⟨rfl, _⟩ := List.cons.inj z2;obtain ⟨p, x, y, rfl, h1, h2, h3⟩ := hq;refine ⟨_, rfl, p, _, _, _, rfl, rfl, SqT.of h1, zQ, rfl, _, rfl, ?_⟩;refine ifF (no (by decide +kernel)) ?_;refine ⟨_, rfl, p, _, _, _, rfl, rfl, SqT.of h1, zQ, rfl, _, rfl, ?_⟩;refine ifF (no (by decide +kernel)) ?_;have ic := j9 wf.1;have id := j9 wf.2.1;refine ⟨_, rfl, p1, _, _, _, rfl, rfl, SqT.of f1, jd, _, rfl, p2, _, _, _, rfl, rfl, SqT.of f2, jd, _, rfl, p1, _, _, _, rfl, rfl, SqT.of f1, zQ, .inl ⟨rfl, _, SqL.of g1⟩, _, rfl, p, _, _, _, rfl, rfl, SqT.of h1, jd, hp1, _, _, (zc th a).idxOf c, rfl, rfl, SqL.of g1, rfl, zU _, ic.1, ic.2,
      _, rfl, p2, _, _, _, rfl, rfl, SqT.of f2, zQ, .inl ⟨rfl, _, SqL.of g2⟩, _, rfl, p, _, _, _, rfl, rfl, SqT.of h1, jx, hp2, _, _, (zc th b).idxOf d, rfl, rfl, SqL.of g2, rfl, zU _, id.1, id.2, ?_⟩
    refine ⟨rp1, rp2, rs1, rs2, _, _, rfl, R1, R2, Int.natCast_nonneg _, Int.natCast_nonneg _, fun z m => ⟨by rw [w1 z m]; exact List.idxOf_lt_length_iff.mpr wf.1, by rw [w1 z m]; exact d1.2⟩, fun z m => ⟨by rw [w2 z m]; exact List.idxOf_lt_length_iff.mpr wf.2.1, by rw [w2 z m]; exact d2.2⟩, by omega, by omega, fun l qs H' s' hq' e => fin l qs H' s' hq' ?_⟩;rw [e, e1, e2];exact z7C wf.1 wf.2.1 wf.2.2.1 (jt TT wfr)

theorem z9e {th : Str → List Str} {q : Qn} (h : wfQ th q) : ∀ r ∈ kids q, wfQ th r := fun r m => yg h r (by
  rw [z00];exact List.mem_append_left _ (List.mem_flatMap.mpr ⟨r, m, z3T r⟩))
theorem z8G {th : Str → List Str} {tr : Str → List (List Int)} {q : Qn} (h : yQ th tr q) : ∀ r ∈ kids q, yQ th tr r := fun r m => jU h r (by
  rw [z00];exact List.mem_append_left _ (List.mem_flatMap.mpr ⟨r, m, z3T r⟩))
noncomputable def z2S (K : PySem.W.Frag) (T1 T2 T3 : Addr) : Sp := fun vs H Q _ => ∃ (th : Str → List Str) (tr : Str → List (List Int)) (q : Qn) (v : V) (tp wl : Addr) (ws : List V), vs = [.ref tp, v, .ref wl] ∧ TabOk th tr ∧ jP th tr H tp ∧ QAt H q v ∧ wfQ th q ∧ yQ th tr q ∧ H wl = some (.lst ws) ∧ kY (z1y th tr) H (kids q) ws ∧ Ls T1 T2 T3 H ∧
  ∀ (p : Addr) (qs : List (Addr × List Int)) (H' : Hp), Nt H H' → Ls T1 T2 T3 H' → RowsAt H' p qs → qs.map (·.2) = rowsOf th tr q → Q (.ref p) H'
theorem z68 : FnScope ["tables", "question", "within"] ["tables", "question", "within"] (zl z0V) := ⟨rfl, rfl, rfl, by decide +kernel, rfl, by decide +kernel, by decide +kernel⟩
theorem z6d {T1 T2 T3 : Addr} (F : Fun K "rows_at" "rows_at" z0V f fd) (T : Txt K mg) (Crows_of_table : Kn P w K mg base 1 "rows_of_table" ["tables", "name"] (z8F K)) (Crows_over_one : Kn P w K mg base 4 "rows_over_one" ["question", "heads", "rows"] (zad K T1 T2 T3)) (Crows_over_two : Kn P w K mg base 2 "rows_over_two" ["question", "first", "second"] (za4 K)) : FnOk P w K mg base CX0 5 f fd ["tables", "question", "within"] (z2S K T1 T2 T3) := by
  refine F.ok z68 (fun vs H Q E h => ?_) (fun cdv A outer s H vs Q E hr h => ?_)
  · obtain ⟨th, tr, q, v, tp, wl, ws, rfl, _⟩ := h
    rfl
  obtain ⟨th, tr, q, v, tp, wl, ws, rfl, TT, h4, hq, wf, sq, hwl, rs, hL, fin⟩ := h;refine ⟨_, (zd (zO (zw zT (zx zu rfl T.len PySem.boot_len (zb (pv 2) ze)) za (zC _))
      (zg (zB (zy Crows_of_table hr.m rfl (zb (pv 0) (zk (zh zj (pv 1) za (fun _ _ => rfl)) ze)))))
      zE)
    (zd (zO (zw zT (zx zu rfl T.len PySem.boot_len (zb (pv 2) ze)) za (zC _))
      (zg (zB (zy Crows_over_one hr.m rfl (zb (pv 1) (zk (zh zj (zh zz (pv 2) za (fun _ _ => rfl)) za (fun _ _ => rfl)) (zk (zh zj (zh zz (pv 2) za (fun _ _ => rfl)) za (fun _ _ => rfl)) ze))))))
      zE)
    (zg (zB (zy Crows_over_two hr.m rfl (zb (pv 1) (zk (zh zz (pv 2) za (fun _ _ => rfl)) (zk (zh zz (pv 2) za (fun _ _ => rfl)) ze)))))))), ?_⟩
  have lw := rs.len;have wk := z9e wf;have sk := z8G sq;rcases z8d hq with ⟨n, p, rfl, rfl, hp⟩ | ⟨r, p, w, xs, y, hk, rfl, hp, hy, hin, hw⟩ | ⟨r, t, p, w, xs, x, y, hk, rfl, hp, hx, hy, hin, hw⟩
  · have l0 : ws.length = 0 := lw;refine ⟨_, rfl, wl, _, rfl, .inl (SqL.of hwl), rfl, _, rfl, ?_⟩;refine ifT (by rw [l0]; simp) ?_;exact ⟨_, rfl, _, rfl, p, _, _, _, rfl, rfl, SqT.of hp, jd, th, tr, tp, n, rfl, h4, wf, fun rp rs H' s' hR e => fin rp rs H' (Nt.of s') (hL.same s') hR e⟩
  · rw [hk] at rs lw wk sk;obtain ⟨u, us, rfl, ⟨p1, hp1, rp1, rs1, rfl, f1, g1, R1, e1⟩, e2⟩ := rs;have e2' : us = [] := e2;subst e2';have mr : r ∈ [r] := List.mem_singleton.mpr rfl;refine ⟨_, rfl, wl, _, rfl, .inl (SqL.of hwl), rfl, _, rfl, ?_⟩;refine ifF (by simp) ?_;refine ⟨_, rfl, wl, _, rfl, .inl (SqL.of hwl), rfl, _, rfl, ?_⟩;refine ifT (by simp) ?_;exact ⟨_, rfl, _, rfl, wl, _, _, _, rfl, rfl, SqL.of hwl, zQ, p1, _, _, _, rfl, rfl, SqT.of f1, zQ, _, rfl, wl, _, _, _, rfl, rfl, SqL.of hwl, zQ, p1, _, _, _, rfl, rfl, SqT.of f1, jd, th, tr, q, r, .ref p, hp1, rp1, rs1, rfl, TT, hq, hk, wf, wk r mr, g1, R1, e1, z2e (sk r mr), hL, fin⟩
  · rw [hk] at rs lw wk sk;obtain ⟨u, us, rfl, e1, u2, us2, rfl, e2, e3⟩ := rs;have e3' : us2 = [] := e3;subst e3';have mr : r ∈ [r, t] := List.mem_cons_self;have mt : t ∈ [r, t] := List.mem_cons_of_mem _ (List.mem_singleton.mpr rfl);refine ⟨_, rfl, wl, _, rfl, .inl (SqL.of hwl), rfl, _, rfl, ?_⟩;refine ifF (by simp) ?_;refine ⟨_, rfl, wl, _, rfl, .inl (SqL.of hwl), rfl, _, rfl, ?_⟩;refine ifF (by simp) ?_;exact ⟨_, rfl, _, rfl, wl, _, _, _, rfl, rfl, SqL.of hwl, zQ, _, rfl, wl, _, _, _, rfl, rfl, SqL.of hwl, jd, th, tr, q, r, t, .ref p, u, u2, rfl, TT, hq, hk, wf, wk r mr, wk t mt, e1, e2, sq, sk r mr, sk t mt, fun p qs H' s' hR e => fin p qs H' (Nt.of s') (hL.same s') hR e⟩
theorem z5l {th : Str → List Str} {tr : Str → List (List Int)} {H : Hp} : ∀ {qs : List Qn} {ws : List V}, kY (z1y th tr) H qs ws → ∃ hs : List Addr, hs.length = ws.length ∧ kY (z9C th) H qs (hs.map V.ref) ∧ ∀ (i : Nat) (v : V), ws[i]? = some v → ∃ (p h r : Addr), v = V.ref p ∧ H p = some (.tup [.ref h, .ref r]) ∧ hs[i]? = some h
  | [], _, h => by
    have e : _ = [] := h;subst e;exact ⟨[], rfl, rfl, fun i v z => by cases z⟩
  | q :: qs, _, ⟨v, us, e, ⟨p, hp, rp, rs, ev, h1, h2, h3, h4⟩, h5⟩ => by
    obtain ⟨hs, l1, r1, f1⟩ := z5l h5;subst e;refine ⟨hp :: hs, by rw [List.length_cons, List.length_cons, l1], ⟨.ref hp, hs.map V.ref, rfl, ⟨hp, rfl, h2⟩, r1⟩, fun i u z => ?_⟩;cases i with
    | zero => cases z; exact ⟨p, hp, rp, ev, h1, rfl⟩
    | succ i => exact f1 i u (by simpa using z)
noncomputable def z1a (K : PySem.W.Frag) (T1 T2 T3 : Addr) : Sp := fun vs H Q _ => ∃ (th : Str → List Str) (tr : Str → List (List Int)) (q : Qn) (v : V) (tp wl : Addr) (ws : List V), vs = [.ref tp, v, .ref wl] ∧ TabOk th tr ∧ jP th tr H tp ∧ QAt H q v ∧ wfQ th q ∧ yQ th tr q ∧ H wl = some (.lst ws) ∧ kY (z1y th tr) H (kids q) ws ∧ Ls T1 T2 T3 H ∧
  ∀ (v' : V) (H' : Hp), Nt H H' → Ls T1 T2 T3 H' → z1y th tr q v' H' → Q v' H'
theorem kY.resN {th : Str → List Str} {tr : Str → List (List Int)} {H H' : Hp} {qs : List Qn} {ws : List V} (h : kY (z1y th tr) H qs ws) (k : Nt H H') : kY (z1y th tr) H' qs ws := h.imp fun _ _ z => z.nt k
theorem z9b (q : Qn) : (kids q).length ≤ 2 := by cases q <;> simp [kids]
theorem z1o : FnScope ["tables", "question", "within", "heads"] ["tables", "question", "within"] (zl kG) := ⟨rfl, rfl, rfl, by decide +kernel, rfl, by decide +kernel, by decide +kernel⟩
theorem z4n {T1 T2 T3 : Addr} (F : Fun K "answer_at" "answer_at" kG f fd) (T : Txt K mg) (Cheads_at : Kn P w K mg base 3 "heads_at" ["tables", "question", "within"] (z0W K)) (Crows_at : Kn P w K mg base 5 "rows_at" ["tables", "question", "within"] (z2S K T1 T2 T3)) : FnOk P w K mg base CX0 6 f fd ["tables", "question", "within"] (z1a K T1 T2 T3) := by
  refine F.ok z1o (fun vs H Q E h => ?_) (fun cdv A outer s H vs Q E hr h => ?_)
  · obtain ⟨th, tr, q, v, tp, wl, ws, rfl, _⟩ := h
    rfl
  obtain ⟨th, tr, q, v, tp, wl, ws, rfl, TT, h4, hq, wf, sq, hwl, rs, hL, fin⟩ := h;obtain ⟨hs, lhs, rh, hat⟩ := z5l rs;have lws := rs.len;have lk := z9b q;refine ⟨_, (zd (zo (i := 3) z1o.nd rfl (Or.inl rfl) (zy Cheads_at hr.m rfl (zb (pv 0) (zb (pv 1) (z1g (jR rfl (CompSc.of (sx := zl kG) (NX := ["tables", "question", "within", "heads"]) (fr := []) (ix := []) rfl rfl (by decide +kernel)) (zX (pv 2)) (fun _ _ _ _ _ _ => jr) (fun _ _ _ _ _ _ => (zh (kw (K := K) rfl) (pv 0) za (fun _ _ => rfl)))) ze)))))
    (zg (zB (zK (zb (pv 3) (zV (zy Crows_at hr.m rfl (zb (pv 0) (zb (pv 1) (zb (pv 2) ze)))) ze)))))), ?_⟩
  refine ⟨_, rfl, _, rfl, _, rfl, wl, rfl, ⟨_, SqL.of hwl⟩, ?_⟩;refine jD (xs := ws) (fun i ys H' => H' = H ∧ ys = (hs.take i).map V.ref) ⟨rfl, rfl⟩ ?_ ?_ ?_
  · rintro i ys H' hi ⟨rfl, rfl⟩;exact ⟨SqL.of hwl, zH (by rw [List.length_map, List.length_take]; omega)⟩
  · rintro i x ys H' hi ⟨rfl, rfl⟩;obtain ⟨p, h, r, rfl, h1, h2⟩ := hat i x hi;refine ⟨_, rfl, p, _, _, _, rfl, rfl, SqT.of h1, zQ, rfl, ?_⟩;rw [List.take_add_one, h2, List.map_append]
    rfl
  · rintro ys H' ⟨rfl, rfl⟩ np hnp;rw [← lhs, List.take_length];refine zf (upd _ np _) rfl hnp fun H1 n1 x1 => ?_
    refine ⟨th, tr, q, v, tp, np, _, rfl, TT, h4.same n1, hq.same n1, wf, x1, rh.imp fun r u ⟨hp, e, z⟩ => ⟨hp, e, n1 _ _ z⟩, fun hp H2 n2 x2 => ?_⟩;have n12 := n1.trans n2;refine ⟨_, rfl, _, rfl, _, rfl, _, rfl, th, tr, q, v, tp, wl, ws, rfl, TT, h4.same n12, hq.same n12, wf, sq, n12 _ _ hwl, rs.resN (Nt.of n12), hL.same n12, fun rp qs H3 n3 L3 hR e => ?_⟩;refine ⟨zq (by show 2 ≤ _; decide), fun ap hap => ?_⟩;refine zf (upd _ ap _) rfl hap fun H4 n4 x4 => ?_
    exact fin _ H4 ((Nt.of n12).trans (n3.trans (Nt.of n4))) (L3.same n4) ⟨ap, hp, rp, qs, rfl, x4, n4 _ _ (n3.lst x2), hR.same n4, e⟩
noncomputable def z4I (K : PySem.W.Frag) (T1 T2 T3 : Addr) : Sp := fun vs H Q _ => ∃ (th : Str → List Str) (tr : Str → List (List Int)) (q : Qn) (v : V) (tp : Addr), vs = [.ref tp, v] ∧ TabOk th tr ∧ jP th tr H tp ∧ QAt H q v ∧ wfQ th q ∧ yQ th tr q ∧ (post q).length ≤ 100000 ∧ Ls T1 T2 T3 H ∧
  ∀ (v' : V) (H' : Hp), Nt H H' → Ls T1 T2 T3 H' → z1y th tr q v' H' → Q v' H'
theorem z2o : FnScope ["tables", "question"] ["tables", "question"] (zl yo) := ⟨rfl, rfl, rfl, by decide +kernel, rfl, by decide +kernel, by decide +kernel⟩
theorem z2s {T1 T2 T3 c : Addr} (F : Fun K "plain_answer" "plain_answer" yo f fd) (T : Txt K mg) (hc : fd.code = .ref c) (C : PySem.W.CodeHd base c T2) (B : base.BuiltinsAt mg T2) (Cheads_of : Kn P w K mg base 10 "heads_of" ["tables", "question"] (z22 K T1 T2 T3)) (Cbuilt_up : KnS P w K mg base CX0 9 "built_up" ["question", "work"] (z2B P w K mg base 8)) (Canswer_at : Kn P w K mg base 6 "answer_at" ["tables", "question", "within"] (z1a K T1 T2 T3)) : FnOk P w K mg base CX0 11 f fd ["tables", "question"] (z4I K T1 T2 T3) := by
  refine F.okC z2o (fun vs H Q E h => ?_) (fun A outer s H vs Q E hr h => ?_)
  · obtain ⟨th, tr, q, v, tp, rfl, _⟩ := h
    rfl
  obtain ⟨th, tr, q, v, tp, rfl, TT, h4, hq, wf, sq, hsz, hL, fin⟩ := h;refine ⟨_, (zd (jc (zy Cheads_of hr rfl (zb (pv 0) (zb (pv 1) ze))))
    (zg (zB (z2H (k := 6) (T := T2) (c := c) (j := 0) (a := "place") (b := "within") (y := "tables") Cbuilt_up z6F (hr.mono (by decide)) rfl (pv 1) hc C B ⟨rfl, rfl, rfl, rfl, rfl, rfl, by decide +kernel, by decide +kernel, by decide +kernel⟩ (Or.inl rfl) rfl
    (fun _ _ _ _ _ _ _ _ hl => zy Canswer_at hl rfl (zb (pv 2) (zb (pv 0) (zb (pv 1) ze)))))))), ?_⟩
  refine ⟨_, rfl, _, rfl, th, tr, q, v, tp, rfl, TT, h4, hq, wf, hsz, hL, fun hp H1 n1 L1 x1 => ?_⟩;refine ⟨_, rfl, L1.b, .ref tp, rfl, fun lf c' H2 s2 k2 lin W => ?_⟩;have n2 := n1.trans (z7V L1.b k2);have L2' := L1.kp2 k2 (.inr ⟨c', lin⟩);refine ⟨v, q, lf, _, Ls T1 T2 T3, z1y th tr, rfl, hq.nt n2, hsz, W.mono (by decide), L2', fun H1 H2 e z => z.same e, fun r u H1 H2 n z => z.nt n, fun r hr' rv wl ws H3 Q1 n3 L3 hrv hwl rs k => ?_, fun v' H' n' L' z => fin v' H' (n2.trans n') L' z⟩;exact ⟨rv, .ref wl, rfl, _, rfl, _, rfl, _, rfl, th, tr, r, rv, tp, wl, ws, rfl, TT, h4.nt (n2.trans n3), hrv, yg wf r hr', jU sq r hr', hwl, rs, L3, k⟩

noncomputable def z4y (K : PySem.W.Frag) : Sp := fun vs H Q _ => ∃ (th : Str → List Str) (tr : Str → List (List Int)) (tp : Addr), vs = [.ref tp] ∧ TabOk th tr ∧ jP th tr H tp ∧ ∀ (p : Addr) (H' : Hp), zF H H' → jP th tr H' p → Q (.ref p) H'
theorem z5j {i : Nat} (h : i < 4) : tabs.getD i "" ∈ tabs := by
  match i, h with
  | 0, _ => decide +kernel
  | 1, _ => decide +kernel
  | 2, _ => decide +kernel
  | 3, _ => decide +kernel
theorem z8R {th : Str → List Str} {tr : Str → List (List Int)} {H : Hp} {p : Addr} {ys : List V} (h : H p = some (.lst ys)) (hl : ys.length = 4) (at4 : ∀ j, j < 4 → ∃ y, ys[j]? = some y ∧ TabAt th tr H y (tabs.getD j "")) : jP th tr H p := by
  match ys, hl with
  | [a, b, c, d], _ =>
    obtain ⟨_, e0, t0⟩ := at4 0 (by decide);obtain ⟨_, e1, t1⟩ := at4 1 (by decide);obtain ⟨_, e2, t2⟩ := at4 2 (by decide);obtain ⟨_, e3, t3⟩ := at4 3 (by decide);cases e0; cases e1; cases e2; cases e3;exact ⟨a, b, c, d, h, t0, t1, t2, t3⟩
theorem z3l : FnScope ["_law_tables"] ["_law_tables"] (zl yx) := ⟨rfl, rfl, rfl, by decide +kernel, rfl, by decide +kernel, by decide +kernel⟩
theorem z3y (F : Fun K "_law_again" "_law_again" yx f fd) (T : Txt K mg) : FnOk P w K mg base CX0 1 f fd ["_law_tables"] (z4y K) := by
  refine F.ok z3l (fun vs H Q E h => ?_) (fun cdv A outer s H vs Q E hr h => ?_)
  · obtain ⟨th, tr, tp, rfl, _⟩ := h
    rfl
  obtain ⟨th, tr, tp, rfl, TT, h4, fin⟩ := h;obtain ⟨vs, hvs, l4, at4⟩ := z1x h4;refine ⟨_, (zg (zB (jR rfl (CompSc.of (sx := zl yx) (NX := ["_law_tables"]) (fr := []) (ix := []) rfl rfl (by decide +kernel)) (zX (pv 0)) (fun _ _ _ _ _ _ => jr) (fun _ _ _ _ _ _ => (zK (zk (zh (kw (K := K) rfl) (pv 0) za (fun _ _ => rfl)) (zV (jq (z15 (K := K) rfl) rfl T.list PyProof.Rows.boot_list (zk (zh (kw (K := K) rfl) (pv 0) za (fun _ _ => rfl)) ze)) (z1g (jR rfl (CompSc.of2 (sx := zl yx) (NX := ["_law_one"]) (fr := []) (ix := []) rfl rfl (by decide +kernel)) (z5m (K := K) rfl (zh (kw (K := K) rfl) (pv 0) za (fun _ _ => rfl))) (fun _ _ _ _ _ _ => jr) (fun _ _ _ _ _ _ => (jq (z15 (K := K) rfl) rfl T.list PyProof.Rows.boot_list (zb (pv 0) ze)))) ze)))))))), ?_⟩;refine ⟨_, rfl, tp, rfl, ⟨_, SqL.of hvs⟩, ?_⟩;refine jD (xs := vs) (fun i ys H' => zF H H' ∧ ys.length = i ∧ ∀ j, j < i → ∃ y, ys[j]? = some y ∧ TabAt th tr H' y (tabs.getD j "")) ⟨zF.refl _, rfl, fun j z => absurd z (Nat.not_lt_zero _)⟩ ?_ ?_ ?_
  · rintro i ys H' hi ⟨sm, hl, _⟩;exact ⟨SqL.of (sm _ _ hvs), zH (by rw [hl]; omega)⟩
  · rintro i x ys H' hi ⟨sm, hl, hys⟩;have hi4 : i < 4 := by rw [← l4]; exact (List.getElem?_eq_some_iff.mp hi).1
    obtain ⟨v, hv, p, hp, rp, rs, rfl, t1, t2, t3, t4⟩ := at4 i hi4;rw [hi] at hv;cases hv;have r60 := z5b TT _ (z5j hi4);have hrs : rs.length ≤ 60 := by rw [← t4, List.length_map] at r60; exact r60
    have hlr : (refs rs).length = rs.length := List.length_map _;have u1 := sm _ _ t1;refine ⟨_, rfl, p, _, _, _, rfl, rfl, SqT.of u1, zQ, _, rfl, p, _, _, _, rfl, rfl, SqT.of u1, jd, hp, _, rfl, .inl (SqL.of (sm _ _ t2)), fun l hl' => ?_⟩;refine zf (upd _ l _) rfl hl' fun H1 n1 x1 => ?_
    have s1 := sm.trans n1;have R1 := t3.same s1;refine ⟨_, rfl, p, _, _, _, rfl, rfl, SqT.of (s1 _ _ t1), jx, rp, rfl, ⟨_, SqL.of R1.1⟩, ?_⟩;refine jD (xs := refs rs) (fun j zs H3 => zF H1 H3 ∧ ∃ qs : List (Addr × List Int), zs = refs qs ∧ qs.length = j ∧ (∀ r ∈ qs, H1 r.1 = none ∧ H3 r.1 = some (.lst (r.2.map V.int))) ∧ qs.map (·.2) = (rs.take j).map (·.2)) ⟨zF.refl _, [], rfl, rfl, fun _ z => (nomatch z), rfl⟩ ?_ ?_ ?_
    · rintro j zs H3 hj ⟨s3, qs, rfl, hq, _⟩;rw [hlr] at hj;exact ⟨SqL.of (s3 _ _ R1.1), zH (by rw [List.length_map]; omega)⟩
    · rintro j y zs H3 hj ⟨s3, qs, rfl, hq, hqa, hqe⟩;have hjr : j < rs.length := by
        have := (List.getElem?_eq_some_iff.mp hj).1
        rwa [hlr] at this
      rw [jO hjr] at hj;cases hj;refine ⟨_, rfl, _, _, rfl, .inl (SqL.of (s3 _ _ (R1.2 _ (List.getElem_mem hjr)).2)), fun l2 hl2 => ?_⟩;have s4 := zG hl2 (.lst (rs[j].2.map V.int));refine ⟨s3.trans s4, qs ++ [(l2, rs[j].2)], by simp [refs], by rw [List.length_append, hq]; rfl, fun r m => ?_, ?_⟩
      · rcases List.mem_append.mp m with m | m
        · exact ⟨(hqa r m).1, s4 _ _ (hqa r m).2⟩
        · rw [List.mem_singleton.mp m];exact ⟨s3.free hl2, zm⟩
      · rw [List.map_append, hqe, List.take_add_one, List.getElem?_eq_getElem hjr, List.map_append]
        rfl
    · rintro zs H3 ⟨s3, qs, rfl, hq, hqa, hqe⟩ rp2 hrp2;rw [hlr, List.take_length] at hqe;refine zf (upd _ rp2 _) rfl hrp2 fun H4 n4 x4 => ?_
      refine ⟨zq (by show 3 ≤ _; decide), fun tp2 htp2 => ?_⟩;refine zf (upd _ tp2 _) rfl htp2 fun H5 n5 x5 => ?_
      have s15 := s3.trans (n4.trans n5);have s05 := n1.trans s15;refine ⟨sm.trans s05, by rw [List.length_append, hl]; rfl, fun j hj => ?_⟩;by_cases hji : j < i
      · obtain ⟨y, hy, ty⟩ := hys j hji;exact ⟨y, by rw [List.getElem?_append_left (by omega)]; exact hy, ty.same s05⟩
      · have e : j = i := by omega
        subst e;refine ⟨_, by rw [List.getElem?_append_right (by omega), hl, Nat.sub_self]; rfl, tp2, l, rp2, qs, rfl, x5, s15 _ _ x1, (jX hrp2 n4 x4 fun r m => (hqa r m).2).same n5, by rw [hqe]; exact t4⟩
  · rintro ys H' ⟨sm, hl, hys⟩ np hnp;rw [l4] at hl hys;refine zf (upd _ np _) rfl hnp fun H1 n1 x1 => ?_
    refine fin np H1 (sm.trans n1) (z8R x1 hl fun j hj => ?_);obtain ⟨y, hy, ty⟩ := hys j hj;exact ⟨y, hy, ty.same n1⟩
noncomputable def z5P (K : PySem.W.Frag) : Sp := fun vs H Q _ => ∃ (th : Str → List Str) (tr : Str → List (List Int)) (hp tp : Addr), vs = [.ref hp, .ref tp] ∧ TabOk th tr ∧ jP th tr H hp ∧ jP th tr H tp ∧ Q (.bl true) H
theorem z9m {th : Str → List Str} {tr : Str → List (List Int)} (T : TabOk th tr) {n : Str} (h : n ∈ tabs) : (th n).length ≤ 100 ∧ ∀ r ∈ tr n, r.length ≤ 100 := by
  have h1 := (jk T (q := .table n) h).2;exact ⟨h1, fun r m => by rw [T.rl n h r m]; exact h1⟩
theorem z1z : FnScope ["_law_handed", "_law_tables", "_law_k"] ["_law_handed", "_law_tables"] (zl z0c) := ⟨rfl, rfl, rfl, by decide +kernel, rfl, by decide +kernel, by decide +kernel⟩
theorem z4C (F : Fun K "_law_kept" "_law_kept" z0c f fd) (T : Txt K mg) (C_law_texts : Kn P w K mg base 1 "_law_texts" ["_law_found", "_law_due"] (z2A K)) (C_law_alike : Kn P w K mg base 3 "_law_alike" ["_law_found", "_law_due"] (z2y K)) : FnOk P w K mg base CX0 4 f fd ["_law_handed", "_law_tables"] (z5P K) := by
  refine F.ok z1z (fun vs H Q E h => ?_) (fun cdv A outer s H vs Q E hr h => ?_)
  · obtain ⟨th, tr, hp, tp, rfl, _⟩ := h
    rfl
  obtain ⟨th, tr, hp, tp, rfl, TT, h4, g4, q⟩ := h;obtain ⟨vs, hvs, l4, at4⟩ := z1x h4;obtain ⟨us, hus, k4, bt4⟩ := z1x g4;refine ⟨_, (zd (zO (zw z16 (zx zu rfl T.len PySem.boot_len (zb (pv 0) ze)) (zx zu rfl T.len PySem.boot_len (zb (pv 1) ze)) (zC _))
      (zg (zB yP))
      zE)
    (zd (jH PassesOwn.never rfl (jW rfl T.range (zV (zx zu rfl T.len PySem.boot_len (zb (pv 1) ze)) ze)) (jf (i := 2) z1z.nd rfl (Or.inl rfl))
      (zd (zO (z0K (z04 (yl (zx ja rfl T.isinstance PyProof.Rows.boot_isinstance (zk (zh zz (pv 0) (pv 2) (fun _ _ => rfl)) (zb (yw (v := .ty "tuple") rfl T.tuple PyProof.Rows.boot_tuple rfl) ze))))) (zw z16 (zx zu rfl T.len PySem.boot_len (zk (zh zz (pv 0) (pv 2) (fun _ _ => rfl)) ze)) za (zC _)))
        (zg (zB yP))
        zE)
      (zd (zO (z04 (yl (zy C_law_texts hr.m rfl (zk (zh zj (zh zz (pv 0) (pv 2) (fun _ _ => rfl)) za (fun _ _ => rfl)) (zk (zh zj (zh zz (pv 1) (pv 2) (fun _ _ => rfl)) za (fun _ _ => rfl)) ze)))))
        (zg (zB yP))
        zE)
      (zd (zO (z04 (yl (zy C_law_alike hr.m rfl (zk (zh zj (zh zz (pv 0) (pv 2) (fun _ _ => rfl)) za (fun _ _ => rfl)) (zk (zh zj (zh zz (pv 1) (pv 2) (fun _ _ => rfl)) za (fun _ _ => rfl)) ze)))))
        (zg (zB yP))
        zE)
      (zg (zO (z0K (z04 (yl (zx ja rfl T.isinstance PyProof.Rows.boot_isinstance (zk (zh zj (zh zz (pv 0) (pv 2) (fun _ _ => rfl)) za (fun _ _ => rfl)) (zb (yw (v := .ty "str") rfl T.str PyProof.Rows.boot_str rfl) ze))))) (zw z16 (zh zj (zh zz (pv 0) (pv 2) (fun _ _ => rfl)) za (fun _ _ => rfl)) (zh zj (zh zz (pv 1) (pv 2) (fun _ _ => rfl)) za (fun _ _ => rfl)) (zC _)))
        (zg (zB yP))
        zE))))))
    (zg (zB yP)))), ?_⟩
  refine ⟨_, rfl, hp, _, rfl, .inl (SqL.of hvs), _, rfl, tp, _, rfl, .inl (SqL.of hus), rfl, _, rfl, ?_⟩;refine ifF (by rw [l4, k4]; simp) ?_;refine ⟨_, rfl, tp, _, rfl, .inl (SqL.of hus), _, rfl, by omega, by rw [k4]; decide, ki (lo := 0) (n := us.length) (fun i σ H' => ∃ o2, σ = [some (.ref hp), some (.ref tp), o2] ∧ H' = H) ⟨none, rfl, rfl⟩ ?_ ?_⟩
  · rintro i σ H' hi ⟨o2, rfl, rfl⟩;have hi4 : i < 4 := by rw [← k4]; exact hi
    obtain ⟨v, hv, p, h1, r1, rs1, rfl, t1, t2, t3, t4⟩ := at4 i hi4;obtain ⟨u, hu, p', h1', r1', rs1', rfl, t1', t2', t3', t4'⟩ := bt4 i hi4;have av : atI vs (0 + (i : Int)) = some (V.ref p) := by rw [Int.zero_add]; exact zW hv
    have au : atI us (0 + (i : Int)) = some (V.ref p') := by rw [Int.zero_add]; exact zW hu
    have mt := z5j hi4;obtain ⟨wn, wr⟩ := z9m TT mt;have r60 := z5b TT _ mt;refine ⟨_, rfl, _, rfl, hp, _, _, _, rfl, rfl, SqL.of hvs, av, _, _, _, _, rfl, TyOf.tup t1, ye, _, rfl, _, ⟨_, rfl, _, rfl, hp, _, _, _, rfl, rfl, SqL.of hvs, av, p, _, rfl, .inr (SqT.of t1), rfl, _, rfl, rfl, rfl⟩, ?_⟩;refine ifF (by rfl) ?_;refine ⟨_, rfl, _, rfl, hp, _, _, _, rfl, rfl, SqL.of hvs, av, p, _, _, _, rfl, rfl, SqT.of t1, jd, _, rfl, _, rfl, tp, _, _, _, rfl, rfl, SqL.of hus, au, p', _, _, _, rfl, rfl, SqT.of t1', jd, h1, h1', _, rfl, t2, SqL.of t2', by omega, _, rfl, ?_⟩;refine ifF (by rfl) ?_;refine ⟨_, rfl, _, rfl, hp, _, _, _, rfl, rfl, SqL.of hvs, av, p, _, _, _, rfl, rfl, SqT.of t1, jx, _, rfl, _, rfl, tp, _, _, _, rfl, rfl, SqL.of hus, au, p', _, _, _, rfl, rfl, SqT.of t1', jx, r1, r1', rs1, rs1', rfl, t3, t3', by rw [t4, t4'], by rw [← t4, List.length_map] at r60; omega, fun r m => by have := wr r.2 (by rw [← t4]; exact List.mem_map.mpr ⟨r, m, rfl⟩); omega, _, rfl, ?_⟩;refine ifF (by rfl) ?_;refine ⟨_, rfl, _, rfl, hp, _, _, _, rfl, rfl, SqL.of hvs, av, p, _, _, _, rfl, rfl, SqT.of t1, zQ, _, _, _, _, rfl, TyOf.str _, ye, _, rfl, _, ⟨_, rfl, _, rfl, hp, _, _, _, rfl, rfl, SqL.of hvs, av, p, _, _, _, rfl, rfl, SqT.of t1, zQ, _, rfl, _, rfl, tp, _, _, _, rfl, rfl, SqL.of hus, au, p', _, _, _, rfl, rfl, SqT.of t1', zQ, rfl, _, rfl, rfl, rfl⟩, ?_⟩;refine ifF (by simp) ?_;exact ⟨_, rfl, rfl⟩
  · rintro σ H' ⟨o2, rfl, rfl⟩;exact q
noncomputable def z2c (K : PySem.W.Frag) : Sp := fun vs H Q _ => ∃ (th : Str → List Str) (tr : Str → List (List Int)) (q : Qn) (v : V) (hp rp : Addr) (rs : List (Addr × List Int)), vs = [v, .ref hp, .ref rp] ∧ z1y th tr q v H ∧ H hp = some (.lst ((zc th q).map V.str)) ∧ RowsAt H rp rs ∧ rs.map (·.2) = rowsOf th tr q ∧ (zc th q).length ≤ 100 ∧ (rowsOf th tr q).length ≤ 60 ∧ (∀ r ∈ rowsOf th tr q, r.length ≤ 100) ∧ Q (.bl true) H
theorem z2q : FnScope ["_law_found", "_law_heads", "_law_rows"] ["_law_found", "_law_heads", "_law_rows"] (zl ke) := ⟨rfl, rfl, rfl, by decide +kernel, rfl, by decide +kernel, by decide +kernel⟩
theorem z2n (F : Fun K "_law_answers" "_law_answers" ke f fd) (T : Txt K mg) (C_law_texts : Kn P w K mg base 1 "_law_texts" ["_law_found", "_law_due"] (z2A K)) (C_law_alike : Kn P w K mg base 3 "_law_alike" ["_law_found", "_law_due"] (z2y K)) : FnOk P w K mg base CX0 4 f fd ["_law_found", "_law_heads", "_law_rows"] (z2c K) := by
  refine F.ok z2q (fun vs H Q E h => ?_) (fun cdv A outer s H vs Q E hr h => ?_)
  · obtain ⟨th, tr, q, v, hp, rp, rs, rfl, _⟩ := h
    rfl
  obtain ⟨th, tr, q, v, hp, rp, rs, rfl, ⟨p, hp1, rp1, rs1, rfl, f1, g1, R1, e1⟩, hh, hR, eR, l1, l2, l3, fin⟩ := h;refine ⟨_, (zd (zO (z0K (z04 (yl (zx ja rfl T.isinstance PyProof.Rows.boot_isinstance (zb (pv 0) (zb (yw (v := .ty "tuple") rfl T.tuple PyProof.Rows.boot_tuple rfl) ze))))) (zw z16 (zx zu rfl T.len PySem.boot_len (zb (pv 0) ze)) za (zC _)))
      (zg (zB yP))
      zE)
    (zg (zB (z8r (zy C_law_texts hr.m rfl (zk (zh zj (pv 0) za (fun _ _ => rfl)) (zb (pv 1) ze))) (z7A (zy C_law_alike hr.m rfl (zk (zh zj (pv 0) za (fun _ _ => rfl)) (zb (pv 2) ze)))))))), ?_⟩
  refine ⟨_, rfl, _, _, _, _, rfl, TyOf.tup f1, ye, _, rfl, _, ⟨_, rfl, p, _, rfl, .inr (SqT.of f1), rfl, _, rfl, rfl, rfl⟩, ?_⟩;refine ifF (by rfl) ?_;refine ⟨_, rfl, p, _, _, _, rfl, rfl, SqT.of f1, zQ, _, rfl, hp1, hp, _, rfl, g1, SqL.of hh, by omega, _, rfl, ?_⟩;refine ifT rfl ?_;exact ⟨_, rfl, p, _, _, _, rfl, rfl, SqT.of f1, jd, _, rfl, rp1, rp, rs1, rs, rfl, R1, hR, by rw [e1, eR], by rw [← e1, List.length_map] at l2; omega, fun r m => by have := l3 r.2 (by rw [← e1]; exact List.mem_map.mpr ⟨r, m, rfl⟩); omega, fin⟩

section
variable {th : Str → List Str} {tr : Str → List (List Int)}
theorem z9F (T : TabOk th tr) : ∀ n ∈ tabs, ∀ s ∈ th n, s ∈ kJ 26 3 := by
  have hl : ∀ s ∈ zZ, s ∈ kJ 26 3 := by decide +kernel
  have ht : ∀ s ∈ th "t", s ∈ kJ 26 3 := by
    obtain ⟨m, _, _, e⟩ := T.t;rw [e];exact fun s hs => hl s (List.mem_of_mem_take hs)
  intro n hn;have hn' : n = "t" ∨ n = "tuvtuvtuvw" ∨ n = "tuvtuvtuvx" ∨ n = "tuvz" := by
    unfold tabs at hn
    simpa using hn
  rcases hn' with rfl | rfl | rfl | rfl
  · exact ht
  · rw [T.w]; decide +kernel
  · rw [T.x]; decide +kernel
  · rw [T.z]; exact ht
theorem z6D : ∀ g ∈ signs, (("n" : Str) ++ g) ∈ kJ 26 3 ∧ (("s" : Str) ++ g) ∈ kJ 26 3 := by decide +kernel
theorem yL (T : TabOk th tr) : ∀ {q : Qn}, okQ th q → ∀ s ∈ zc th q, s ∈ kJ 26 3
  | .table n, h => z9F T n h
  | .pick _ q, h => yL T (q := q) h.2.2
  | .cols ns q, h => fun s hs => yL T (q := q) h.2.2.2 s (h.2.2.1 s hs)
  | .pair q r, h => fun s hs => by
    rcases List.mem_append.mp hs with hs | hs
    · exact yL T (q := q) h.2.1 s hs
    · exact yL T (q := r) h.2.2 s hs
  | .join a b q r, h => fun s hs => by
    rcases List.mem_append.mp hs with hs | hs
    · exact yL T (q := q) h.2.2.2.1 s hs
    · exact yL T (q := r) h.2.2.2.2 s hs
  | .both q r, h => yL T (q := q) h.2.1
  | .first _ q, h => yL T (q := q) h.2
  | .group a b n s q, h => fun x hx => by
    obtain ⟨ha, _, ⟨g, hg, rfl, rfl⟩, _, _, hq⟩ := h;have hx' : x ∈ [a, ("n" : Str) ++ g, ("s" : Str) ++ g] := hx;simp only [List.mem_cons, List.not_mem_nil, or_false] at hx';rcases hx' with rfl | rfl | rfl
    · exact yL T (q := q) hq _ ha
    · exact (z6D g hg).1
    · exact (z6D g hg).2
  | .sort _ q, h => yL T (q := q) h.2
theorem z83 : ∀ i ∈ kO, 0 ≤ i := by decide +kernel
theorem z9n : ∀ g ∈ signs, (("n" : Str) ++ g) ≠ (("s" : Str) ++ g) := by decide +kernel
theorem z4V (T : TabOk th tr) {q r : Qn} (hq : okQ th q) (hr : okQ th r) (nd : ∀ n ∈ zc th q, n ∉ zc th r) : (zc th q ++ zc th r).length ≤ 100 :=
  Nat.le_trans (ko (List.nodup_append.mpr ⟨(jm T hq).2, (jm T hr).2, fun a ha b hb e => nd a ha (e ▸ hb)⟩) fun x hx => (List.mem_append.mp hx).elim (yL T hq x) (yL T hr x)) z2V
theorem z0y (T : TabOk th tr) : ∀ {q : Qn}, okQ th q → wfQ th q
  | .table n, h => h
  | .pick c q, h => ⟨h.1.ok, Nat.le_trans h.2.1 (by decide), z0y T h.2.2⟩
  | .cols ns q, h => ⟨h.2.1, h.2.2.1, z0y T h.2.2.2⟩
  | .pair q r, h => ⟨h.1, z4V T h.2.1 h.2.2 h.1, z0y T h.2.1, z0y T h.2.2⟩
  | .join a b q r, h => ⟨h.1, h.2.1, h.2.2.1, z4V T h.2.2.2.1 h.2.2.2.2 h.2.2.1, z0y T h.2.2.2.1, z0y T h.2.2.2.2⟩
  | .both q r, h => ⟨h.1, z0y T h.2.1, z0y T h.2.2⟩
  | .first n q, h => ⟨z83 n h.1, z0y T h.2⟩
  | .group a b n s q, h => by
    obtain ⟨ha, hb, ⟨g, hg, rfl, rfl⟩, h1, h2, hq⟩ := h;refine ⟨ha, hb, ?_, z0y T hq⟩;have := z9n g hg;simp [h1, h2, this]
  | .sort a q, h => ⟨h.1, z0y T h.2⟩
theorem z9c : ∀ n ∈ tabs, 1 ≤ n.length := by decide +kernel
theorem jI : ∀ {q : Qn}, okQ th q → 3 * (post q).length ≤ (zA q).length + 2
  | .table n, h => by
    have := z9c n h;simp only [zA, post, List.length_singleton];omega
  | .pick c q, h => by
    have := jI (q := q) h.2.2;simp only [zA, post, List.length_append, List.length_singleton]
    (walk_at "sl")
  | .cols ns q, h => by
    have := jI (q := q) h.2.2.2;simp only [zA, post, List.length_append, List.length_singleton]
    (walk_at "sl")
  | .pair q r, h => by
    have := jI (q := q) h.2.1;have := jI (q := r) h.2.2;simp only [zA, post, List.length_append, List.length_singleton]
    (walk_at "sl")
  | .join a b q r, h => by
    have := jI (q := q) h.2.2.2.1;have := jI (q := r) h.2.2.2.2;simp only [zA, post, List.length_append, List.length_singleton]
    (walk_at "sl")
  | .both q r, h => by
    have := jI (q := q) h.2.1;have := jI (q := r) h.2.2;simp only [zA, post, List.length_append, List.length_singleton]
    (walk_at "sl")
  | .first n q, h => by
    have := jI (q := q) h.2;simp only [zA, post, List.length_append, List.length_singleton]
    (walk_at "sl")
  | .group a b n s q, h => by
    have := jI (q := q) h.2.2.2.2.2;simp only [zA, post, List.length_append, List.length_singleton]
    (walk_at "sl")
  | .sort a q, h => by
    have := jI (q := q) h.2;simp only [zA, post, List.length_append, List.length_singleton]
    (walk_at "sl")
end
noncomputable def z6t (K : PySem.W.Frag) (T1 T2 T3 : Addr) : Sp := fun vs H Q _ => ∃ (a : Addr) (ns : List Int), vs = [.ref a] ∧ SqL K H a (ns.map V.int) ∧ ns.length ≤ 63 ∧ y0 H T1 z8i z89 ∧ y0 H T2 z8C z88 ∧ y0 H T3 z2Q z8j ∧ ∀ H', Q (.bl true) H'
theorem z3h : FnScope ["_law_script", "_law_tables", "_law_state", "_law_handed", "_law_found"] ["_law_script"] (zl z2K) := ⟨rfl, rfl, rfl, by decide +kernel, rfl, by decide +kernel, by decide +kernel⟩
theorem z9V {T1 T2 T3 : Addr} (F : Fun K "law" "law" z2K f fd) (T : Txt K mg) (d12 : T1 ≠ T2) (d13 : T1 ≠ T3) (d23 : T2 ≠ T3) (C_law_wide : Kn P w K mg base 1 "_law_wide" ["_law_script", "_law_few", "_law_bound"] (z5C K)) (C_law_stocked : Kn P w K mg base 1 "_law_stocked" ["_law_cells", "_law_more"] (z1R K)) (C_law_grown : Kn P w K mg base 10 "_law_grown" ["_law_cells", "_law_tables"] (z4t K))
    (C_law_again : Kn P w K mg base 1 "_law_again" ["_law_tables"] (z4y K)) (Cplain_answer : Kn P w K mg base 11 "plain_answer" ["tables", "question"] (z4I K T1 T2 T3)) (C_law_kept : Kn P w K mg base 4 "_law_kept" ["_law_handed", "_law_tables"] (z5P K)) (C_law_answers : Kn P w K mg base 4 "_law_answers" ["_law_found", "_law_heads", "_law_rows"] (z2c K)) : FnOk P w K mg base CX0 12 f fd ["_law_script"] (z6t K T1 T2 T3) := by
  refine F.ok z3h (fun vs H Q E h => ?_) (fun cdv A outer s H vs Q E hr h => ?_)
  · obtain ⟨a, ns, rfl, _⟩ := h
    rfl
  obtain ⟨a, ns, rfl, hS, hn, L1, L2', L3, q⟩ := h;have hL : Ls T1 T2 T3 H := ⟨L1, L2', L3, d12, d13, d23⟩;refine ⟨_, (zd (zo (i := 1) z3h.nd rfl (Or.inl rfl) (zy C_law_stocked hr.m rfl (zk (jn yy (pv 0) (jG za) (jG za)) (zV (zy C_law_wide hr.m rfl (zb (pv 0) (zv za (zv za ze)))) ze))))
    (zd (zo (i := 2) z3h.nd rfl (Or.inl rfl) (zy C_law_grown hr.m rfl (zk (jn yy (pv 0) jS (jG za)) (zb (pv 1) ze))))
    (zd (zo (i := 3) z3h.nd rfl (Or.inl rfl) (zy C_law_again hr.m rfl (zb (pv 1) ze)))
    (zd (zo (i := 4) z3h.nd rfl (Or.inl rfl) (zy Cplain_answer hr.m rfl (zb (pv 3) (zk (zh zj (pv 2) za (fun _ _ => rfl)) ze))))
    (zg (zB (z8r (zy C_law_kept hr.m rfl (zb (pv 3) (zb (pv 1) ze))) (z7A (zy C_law_answers hr.m rfl (zb (pv 4) (zk (zh zj (pv 2) za (fun _ _ => rfl)) (zk (zh zj (pv 2) za (fun _ _ => rfl)) ze)))))))))))), ?_⟩
  have six : ∀ k : Nat, HT.sIx ns.length ns.length (some (k : Int)) = min k ns.length ∧ HT.sIx ns.length 0 (some (k : Int)) = min k ns.length := fun k => by
    have hk : ¬ ((k : Int) < 0) := by omega
    refine ⟨?_, ?_⟩ <;>
    · show (if (k : Int) < 0 then ((k : Int) + (ns.length : Int)).toNat else min (k : Int).toNat ns.length) = _
      rw [if_neg hk]
      rfl
  refine ⟨_, rfl, _, rfl, _, rfl, a, _, rfl, hS, fun l2 hl2 => ?_⟩;rw [z0Q];refine zf (upd _ l2 _) rfl hl2 fun H2 n2 x2 => ?_
  refine ⟨_, rfl, a, ns, 8, 180, rfl, n2.seq hS, hn, by decide, by decide, fun m H3 n3 m0 m1 => ?_⟩;have c1 : ((ns.drop (HT.sIx ns.length 0 none)).take (HT.sIx ns.length ns.length (some 16) - HT.sIx ns.length 0 none)).length ≤ 16 := by
    rw [List.length_take, show HT.sIx ns.length ns.length (some 16) = _ from (six 16).1];omega
  have c2 : ((ns.drop (HT.sIx ns.length 0 (some 16))).take (HT.sIx ns.length ns.length (some 31) - HT.sIx ns.length 0 (some 16))).length ≤ 18 := by
    rw [List.length_take, show HT.sIx ns.length ns.length (some 31) = _ from (six 31).1, show HT.sIx ns.length 0 (some 16) = _ from (six 16).2];omega
  refine ⟨l2, _, m, rfl, SqL.of (n3 _ _ x2), c2, m0, by omega, fun p th tr H4 n4 T4 f4 => ?_⟩;have n04 := n2.trans (n3.trans n4);refine ⟨_, rfl, _, rfl, a, _, rfl, n04.seq hS, fun l1 hl1 => ?_⟩;rw [z0Q];refine zf (upd _ l1 _) rfl hl1 fun H5 n5 x5 => ?_
  refine ⟨_, rfl, l1, p, _, th, tr, rfl, SqL.of x5, by omega, T4, f4.same n5, fun v' qq used twice H6 n6 st6 gr hu ht => ?_⟩;obtain ⟨p', qv, hp, rp, rs, rfl, h1, h2, h3, h4, h5⟩ := st6;have n56 := n5.trans n6;refine ⟨_, rfl, th, tr, p, rfl, T4, f4.same n56, fun p7 H7 n7 f7 => ?_⟩;have hwf := z0y T4 gr.ok;have hpl := jI gr.ok;have hbig := gr.line;have htw := (yZ twice).2;have hsz : (post qq).length ≤ 100000 := by
    have : 2400 * (((ns.drop (HT.sIx ns.length 0 none)).take (HT.sIx ns.length ns.length (some 16) - HT.sIx ns.length 0 none)).length + 1) * twM twice ≤ 2400 * 17 * 4 := Nat.mul_le_mul (Nat.mul_le_mul_left _ (by omega)) htw;omega
  refine ⟨_, rfl, _, rfl, p', _, _, _, rfl, rfl, SqT.of (n7 _ _ h1), zQ, th, tr, qq, qv, p7, rfl, T4, f7, h2.same n7, hwf, gr.sub, hsz, hL.same (n04.trans (n56.trans n7)), fun v8 H8 n8 L8 z8 => ?_⟩;have n78 := (Nt.of n7).trans n8;refine ⟨_, rfl, _, rfl, th, tr, p7, p, rfl, T4, f7.nt n8, (f4.same n56).nt n78, _, rfl, ?_⟩;refine ifT rfl ?_;have hw := jk T4 hwf;have hro := gr.rows;exact ⟨_, rfl, _, rfl, p', _, _, _, rfl, rfl, SqT.of (n78.tup h1), jx, _, rfl, p', _, _, _, rfl, rfl, SqT.of (n78.tup h1), z0h, th, tr, qq, v8, hp, rp, rs, rfl, z8, n78.lst h3, h4.nt n78, h5, hw.2, hro, fun r m => by rw [jt T4 hwf r m]; exact hw.2, q _⟩
end
theorem z5G {P : List Value → Prop} (h : ∀ a, P [a]) : ∀ us : List Value, us.length = 1 → P us
  | [a], _ => h a
theorem z07 {P : List Value → Prop} (h : ∀ a b, P [a, b]) : ∀ us : List Value, us.length = 2 → P us
  | [a, b], _ => h a b
theorem z0Y {P : List Value → Prop} (h : ∀ a b c, P [a, b, c]) : ∀ us : List Value, us.length = 3 → P us
  | [a, b, c], _ => h a b c
theorem zaT {P : List Value → Prop} (h : ∀ a b c d, P [a, b, c, d]) : ∀ us : List Value, us.length = 4 → P us
  | [a, b, c, d], _ => h a b c d
noncomputable abbrev nI (K : PySem.W.Frag) (x : Str) (f : Addr) : Prop := PySem.W.nsIn K mainGlobals x = some (some (.ref f))
noncomputable abbrev fL (K : PySem.W.Frag) (f : Addr) (oc : Value) (od : Option Addr) (x : Str) (st : Stmt) (kV dc pm : Value) (an : Option Addr) (cd ct : Value) (sl : Array (Option Value)) : Prop := K.lookup f = some ⟨oc, od, .func (PySem.W.fnOf x x (z0X st) (yt st) (zl st) .none kV dc pm an cd ct), sl⟩
noncomputable abbrev cI (K : PySem.W.Frag) (cd : Value) (x : Str) : Prop := PySem.W.codeIn K cd x = true
noncomputable abbrev kI (K : PySem.W.Frag) (f : Addr) : Prop := PySem.W.keepIn K (.ref f) = true
theorem all_mk {l : PySem.W.OpenLaw} {w : World} {K : PySem.W.Frag} {h : Heap} {mg : Str → Option Value} {fa f0 f1 f2 f3 f4 f5 f6 f7 f8 f9 f10 f11 f12 f13 f14 f15 f16 f17 f18 f19 f20 f21 f22 f23 f24 f25 f26 f27 f28 f29 f30 f31 f32 f33 f34 f35 f36 f37 f38 f39 f40 f41 f42 f43 f44 f45 f46 : Addr} (X : K.In h) (G : h.Ns mainGlobals mg) (hfa : mg "law" = some (.ref fa)) { Tb Tb1 Tb2 : Addr}
    {od0 an0 od1 an1 od2 an2 od3 an3 od4 an4 od5 an5 od6 an6 od7 an7 od8 an8 od9 an9 od10 an10 od11 an11 od12 an12 od13 an13 od14 an14 od15 an15 od16 an16 od17 an17 od18 an18 od19 an19 od20 an20 od21 an21 od22 an22 od23 an23 od24 an24 od25 an25 od26 an26 od27 an27 od28 an28 od29 an29 od30 an30 od31 an31 od32 an32 od33 an33 od34 an34 od35 an35 od36 an36 od37 an37 od38 an38 od39 an39 od40 an40 od41 an41 od42 an42 od43 an43 od44 an44 od45 an45 od46 an46 : Option Addr} {sl0 sl1 sl2 sl3 sl4 sl5 sl6 sl7 sl8 sl9 sl10 sl11 sl12 sl13 sl14 sl15 sl16 sl17 sl18 sl19 sl20 sl21 sl22 sl23 sl24 sl25 sl26 sl27 sl28 sl29 sl30 sl31 sl32 sl33 sl34 sl35 sl36 sl37 sl38 sl39 sl40 sl41 sl42 sl43 sl44 sl45 sl46 : Array (Option Value)} {oc0 kV0 dc0 pm0 cd0 ct0 oc1 kV1 dc1 pm1 cd1 ct1 oc2 kV2 dc2 pm2 cd2 ct2 oc3 kV3 dc3 pm3 cd3 ct3 oc4 kV4 dc4 pm4 cd4 ct4 oc5 kV5 dc5 pm5 cd5 ct5 oc6 kV6 dc6 pm6 cd6 ct6 oc7 kV7 dc7 pm7 cd7 ct7 oc8 kV8 dc8 pm8 cd8 ct8 oc9 kV9 dc9 pm9 cd9 ct9 oc10 kV10 dc10 pm10 cd10 ct10 oc11 kV11 dc11 pm11 cd11 ct11 oc12 kV12 dc12 pm12 cd12 ct12 oc13 kV13 dc13 pm13 cd13 ct13 oc14 kV14 dc14 pm14 cd14 ct14 oc15 kV15 dc15 pm15 cd15 ct15 oc16 kV16 dc16 pm16 cd16 ct16 oc17 kV17 dc17 pm17 cd17 ct17 oc18 kV18 dc18 pm18 cd18 ct18 oc19 kV19 dc19 pm19 cd19 ct19 oc20 kV20 dc20 pm20 cd20 ct20 oc21 kV21 dc21 pm21 cd21 ct21 oc22 kV22 dc22 pm22 cd22 ct22 oc23 kV23 dc23 pm23 cd23 ct23 oc24 kV24 dc24 pm24 cd24 ct24 oc25 kV25 dc25 pm25 cd25 ct25 oc26 kV26 dc26 pm26 cd26 ct26 oc27 kV27 dc27 pm27 cd27 ct27 oc28 kV28 dc28 pm28 cd28 ct28 oc29 kV29 dc29 pm29 cd29 ct29 oc30 kV30 dc30 pm30 cd30 ct30 oc31 kV31 dc31 pm31 cd31 ct31 oc32 kV32 dc32 pm32 cd32 ct32 oc33 kV33 dc33 pm33 cd33 ct33 oc34 kV34 dc34 pm34 cd34 ct34 oc35 kV35 dc35 pm35 cd35 ct35 oc36 kV36 dc36 pm36 cd36 ct36 oc37 kV37 dc37 pm37 cd37 ct37 oc38 kV38 dc38 pm38 cd38 ct38 oc39 kV39 dc39 pm39 cd39 ct39 oc40 kV40 dc40 pm40 cd40 ct40 oc41 kV41 dc41 pm41 cd41 ct41 oc42 kV42 dc42 pm42 cd42 ct42 oc43 kV43 dc43 pm43 cd43 ct43 oc44 kV44 dc44 pm44 cd44 ct44 oc45 kV45 dc45 pm45 cd45 ct45 oc46 kV46 dc46 pm46 cd46 ct46 : Value}
    (a0 : nI K "number_of" f0) (l0 : fL K f0 oc0 od0 "number_of" z08 kV0 dc0 pm0 an0 cd0 ct0 sl0) (c0 : cI K cd0 "number_of") (k0 : kI K f0)
    (a1 : nI K "compared" f1) (l1 : fL K f1 oc1 od1 "compared" z0r kV1 dc1 pm1 an1 cd1 ct1 sl1) (c1 : cI K cd1 "compared") (k1 : kI K f1)
    (a2 : nI K "holds" f2) (l2 : fL K f2 oc2 od2 "holds" z2x kV2 dc2 pm2 an2 cd2 ct2 sl2) (c2 : cI K cd2 "holds") (k2 : kI K f2)
    (a3 : nI K "columns_of" f3) (l3 : fL K f3 oc3 od3 "columns_of" kW kV3 dc3 pm3 an3 cd3 ct3 sl3) (c3 : cI K cd3 "columns_of") (k3 : kI K f3)
    (a4 : nI K "straight_within" f4) (l4 : fL K f4 oc4 od4 "straight_within" yh kV4 dc4 pm4 an4 cd4 ct4 sl4) (c4 : cI K cd4 "straight_within") (k4 : kI K f4)
    (a5 : nI K "inner_first" f5) (l5 : fL K f5 oc5 od5 "inner_first" ku kV5 dc5 pm5 an5 cd5 ct5 sl5) (c5 : cI K cd5 "inner_first") (k5 : kI K f5)
    (a6 : nI K "built_up" f6) (l6 : fL K f6 oc6 od6 "built_up" z0x kV6 dc6 pm6 an6 cd6 ct6 sl6) (c6 : cI K cd6 "built_up") (k6 : kI K f6)
    (a7 : nI K "heads_of_table" f7) (l7 : fL K f7 oc7 od7 "heads_of_table" yq kV7 dc7 pm7 an7 cd7 ct7 sl7) (c7 : cI K cd7 "heads_of_table") (k7 : kI K f7)
    (a8 : nI K "check_columns" f8) (l8 : fL K f8 oc8 od8 "check_columns" yK kV8 dc8 pm8 an8 cd8 ct8 sl8) (c8 : cI K cd8 "check_columns") (k8 : kI K f8)
    (a9 : nI K "each_once" f9) (l9 : fL K f9 oc9 od9 "each_once" z09 kV9 dc9 pm9 an9 cd9 ct9 sl9) (c9 : cI K cd9 "each_once") (k9 : kI K f9)
    (a10 : nI K "heads_over_one" f10) (l10 : fL K f10 oc10 od10 "heads_over_one" yz kV10 dc10 pm10 an10 cd10 ct10 sl10) (c10 : cI K cd10 "heads_over_one") (k10 : kI K f10)
    (a11 : nI K "heads_over_two" f11) (l11 : fL K f11 oc11 od11 "heads_over_two" yv kV11 dc11 pm11 an11 cd11 ct11 sl11) (c11 : cI K cd11 "heads_over_two") (k11 : kI K f11)
    (a12 : nI K "heads_at" f12) (l12 : fL K f12 oc12 od12 "heads_at" z0v kV12 dc12 pm12 an12 cd12 ct12 sl12) (c12 : cI K cd12 "heads_at") (k12 : kI K f12)
    (a13 : nI K "heads_of" f13) (l13 : fL K f13 oc13 od13 "heads_of" z06 kV13 dc13 pm13 an13 cd13 ct13 sl13) (c13 : cI K cd13 "heads_of") (k13 : kI K f13)
    (ct13 : L2.codeOf K cd13 Tb1 = true)
    (a14 : nI K "joined" f14) (l14 : fL K f14 oc14 od14 "joined" z1A kV14 dc14 pm14 an14 cd14 ct14 sl14) (c14 : cI K cd14 "joined") (k14 : kI K f14)
    (a15 : nI K "grouped" f15) (l15 : fL K f15 oc15 od15 "grouped" z0k kV15 dc15 pm15 an15 cd15 ct15 sl15) (c15 : cI K cd15 "grouped") (k15 : kI K f15)
    (a16 : nI K "in_order" f16) (l16 : fL K f16 oc16 od16 "in_order" km kV16 dc16 pm16 an16 cd16 ct16 sl16) (c16 : cI K cd16 "in_order") (k16 : kI K f16)
    (ct16 : L2.codeOf K cd16 Tb = true)
    (a17 : nI K "rows_of_table" f17) (l17 : fL K f17 oc17 od17 "rows_of_table" yd kV17 dc17 pm17 an17 cd17 ct17 sl17) (c17 : cI K cd17 "rows_of_table") (k17 : kI K f17)
    (a18 : nI K "numbers_at" f18) (l18 : fL K f18 oc18 od18 "numbers_at" yY kV18 dc18 pm18 an18 cd18 ct18 sl18) (c18 : cI K cd18 "numbers_at") (k18 : kI K f18)
    (a19 : nI K "paired" f19) (l19 : fL K f19 oc19 od19 "paired" z0H kV19 dc19 pm19 an19 cd19 ct19 sl19) (c19 : cI K cd19 "paired") (k19 : kI K f19)
    (a20 : nI K "rows_over_one" f20) (l20 : fL K f20 oc20 od20 "rows_over_one" jv kV20 dc20 pm20 an20 cd20 ct20 sl20) (c20 : cI K cd20 "rows_over_one") (k20 : kI K f20)
    (a21 : nI K "rows_over_two" f21) (l21 : fL K f21 oc21 od21 "rows_over_two" yJ kV21 dc21 pm21 an21 cd21 ct21 sl21) (c21 : cI K cd21 "rows_over_two") (k21 : kI K f21)
    (a22 : nI K "rows_at" f22) (l22 : fL K f22 oc22 od22 "rows_at" z0V kV22 dc22 pm22 an22 cd22 ct22 sl22) (c22 : cI K cd22 "rows_at") (k22 : kI K f22)
    (a23 : nI K "answer_at" f23) (l23 : fL K f23 oc23 od23 "answer_at" kG kV23 dc23 pm23 an23 cd23 ct23 sl23) (c23 : cI K cd23 "answer_at") (k23 : kI K f23)
    (a24 : nI K "plain_answer" f24) (l24 : fL K f24 oc24 od24 "plain_answer" yo kV24 dc24 pm24 an24 cd24 ct24 sl24) (c24 : cI K cd24 "plain_answer") (k24 : kI K f24)
    (ct24 : L2.codeOf K cd24 Tb2 = true)
    (a25 : nI K "_law_texts" f25) (l25 : fL K f25 oc25 od25 "_law_texts" kX kV25 dc25 pm25 an25 cd25 ct25 sl25) (c25 : cI K cd25 "_law_texts") (k25 : kI K f25)
    (a26 : nI K "_law_whole" f26) (l26 : fL K f26 oc26 od26 "_law_whole" kT kV26 dc26 pm26 an26 cd26 ct26 sl26) (c26 : cI K cd26 "_law_whole") (k26 : kI K f26)
    (a27 : nI K "_law_numbers" f27) (l27 : fL K f27 oc27 od27 "_law_numbers" yX kV27 dc27 pm27 an27 cd27 ct27 sl27) (c27 : cI K cd27 "_law_numbers") (k27 : kI K f27)
    (a28 : nI K "_law_alike" f28) (l28 : fL K f28 oc28 od28 "_law_alike" kU kV28 dc28 pm28 an28 cd28 ct28 sl28) (c28 : cI K cd28 "_law_alike") (k28 : kI K f28)
    (a29 : nI K "_law_answers" f29) (l29 : fL K f29 oc29 od29 "_law_answers" ke kV29 dc29 pm29 an29 cd29 ct29 sl29) (c29 : cI K cd29 "_law_answers") (k29 : kI K f29)
    (a30 : nI K "_law_again" f30) (l30 : fL K f30 oc30 od30 "_law_again" yx kV30 dc30 pm30 an30 cd30 ct30 sl30) (c30 : cI K cd30 "_law_again") (k30 : kI K f30)
    (a31 : nI K "_law_kept" f31) (l31 : fL K f31 oc31 od31 "_law_kept" z0c kV31 dc31 pm31 an31 cd31 ct31 sl31) (c31 : cI K cd31 "_law_kept") (k31 : kI K f31)
    (a32 : nI K "_law_wide" f32) (l32 : fL K f32 oc32 od32 "_law_wide" z0b kV32 dc32 pm32 an32 cd32 ct32 sl32) (c32 : cI K cd32 "_law_wide") (k32 : kI K f32)
    (a33 : nI K "_law_stocked" f33) (l33 : fL K f33 oc33 od33 "_law_stocked" ji kV33 dc33 pm33 an33 cd33 ct33 sl33) (c33 : cI K cd33 "_law_stocked") (k33 : kI K f33)
    (a34 : nI K "_law_spelt" f34) (l34 : fL K f34 oc34 od34 "_law_spelt" yr kV34 dc34 pm34 an34 cd34 ct34 sl34) (c34 : cI K cd34 "_law_spelt") (k34 : kI K f34)
    (a35 : nI K "_law_true" f35) (l35 : fL K f35 oc35 od35 "_law_true" yO kV35 dc35 pm35 an35 cd35 ct35 sl35) (c35 : cI K cd35 "_law_true") (k35 : kI K f35)
    (a36 : nI K "_law_asking" f36) (l36 : fL K f36 oc36 od36 "_law_asking" kq kV36 dc36 pm36 an36 cd36 ct36 sl36) (c36 : cI K cd36 "_law_asking") (k36 : kI K f36)
    (a37 : nI K "_law_picked" f37) (l37 : fL K f37 oc37 od37 "_law_picked" yH kV37 dc37 pm37 an37 cd37 ct37 sl37) (c37 : cI K cd37 "_law_picked") (k37 : kI K f37)
    (a38 : nI K "_law_columns" f38) (l38 : fL K f38 oc38 od38 "_law_columns" jB kV38 dc38 pm38 an38 cd38 ct38 sl38) (c38 : cI K cd38 "_law_columns") (k38 : kI K f38)
    (a39 : nI K "_law_sorted" f39) (l39 : fL K f39 oc39 od39 "_law_sorted" yE kV39 dc39 pm39 an39 cd39 ct39 sl39) (c39 : cI K cd39 "_law_sorted") (k39 : kI K f39)
    (a40 : nI K "_law_headed" f40) (l40 : fL K f40 oc40 od40 "_law_headed" kA kV40 dc40 pm40 an40 cd40 ct40 sl40) (c40 : cI K cd40 "_law_headed") (k40 : kI K f40)
    (a41 : nI K "_law_doubled" f41) (l41 : fL K f41 oc41 od41 "_law_doubled" yU kV41 dc41 pm41 an41 cd41 ct41 sl41) (c41 : cI K cd41 "_law_doubled") (k41 : kI K f41)
    (a42 : nI K "_law_beside" f42) (l42 : fL K f42 oc42 od42 "_law_beside" kr kV42 dc42 pm42 an42 cd42 ct42 sl42) (c42 : cI K cd42 "_law_beside") (k42 : kI K f42)
    (a43 : nI K "_law_united" f43) (l43 : fL K f43 oc43 od43 "_law_united" yG kV43 dc43 pm43 an43 cd43 ct43 sl43) (c43 : cI K cd43 "_law_united") (k43 : kI K f43)
    (a44 : nI K "_law_counted" f44) (l44 : fL K f44 oc44 od44 "_law_counted" jC kV44 dc44 pm44 an44 cd44 ct44 sl44) (c44 : cI K cd44 "_law_counted") (k44 : kI K f44)
    (a45 : nI K "_law_grown" f45) (l45 : fL K f45 oc45 od45 "_law_grown" kZ kV45 dc45 pm45 an45 cd45 ct45 sl45) (c45 : cI K cd45 "_law_grown") (k45 : kI K f45)
    (a46 : nI K "law" f46) (l46 : fL K f46 oc46 od46 "law" z2K kV46 dc46 pm46 an46 cd46 ct46 sl46) (c46 : cI K cd46 "law") (k46 : kI K f46)
    (z0 : PySem.W.nsIn K mainGlobals "isinstance" = some none)
    (z1 : PySem.W.nsIn K mainGlobals "int" = some none)
    (z2 : PySem.W.nsIn K mainGlobals "bool" = some none)
    (z3 : PySem.W.nsIn K mainGlobals "list" = some none)
    (z4 : PySem.W.nsIn K mainGlobals "tuple" = some none)
    (z5 : PySem.W.nsIn K mainGlobals "str" = some none)
    (z6 : PySem.W.nsIn K mainGlobals "len" = some none)
    (z7 : PySem.W.nsIn K mainGlobals "range" = some none)
    (z8 : PySem.W.nsIn K mainGlobals "min" = some none)
    (z9 : PySem.W.nsIn K mainGlobals "max" = some none)
    (z10 : PySem.W.nsIn K mainGlobals "sum" = some none)
    (z11 : PySem.W.nsIn K mainGlobals "sorted" = some none)
    (z12 : PySem.W.nsIn K mainGlobals "reversed" = some none)
    (z13 : PySem.W.nsIn K mainGlobals "zip" = some none)
    {cA : Addr} {odC : Option Addr} {slC : Array (Option Value)} {nC : Nat} {t1 t2 : Tok} (aC : PySem.W.nsIn K mainGlobals "COMPARISONS" = some (some (.ref cA))) (lC : K.lookup cA = some ⟨.type "tuple", odC, .seq #[.str "less" t1, .str "same" t2] nC, slC⟩)
    {cT : Addr} {odT : Option Addr} {slT : Array (Option Value)} {nT : Nat} {t3 t4 t5 : Tok} (aT : PySem.W.nsIn K mainGlobals "TWOFOLD" = some (some (.ref cT))) (lT : K.lookup cT = some ⟨.type "tuple", odT, .seq #[.str "pair" t3, .str "join" t4, .str "both" t5] nT, slT⟩)
    (zs : PySem.W.nsIn K mainGlobals "set" = some none)
    (ctd0 : decide (Tb1 = Tb2) = false) (ctd1 : decide (Tb1 = Tb) = false) (ctd2 : decide (Tb2 = Tb) = false)
    : ∃ fd : FuncData, (∀ (s : Shared) (v : Value), BindsTo s fd ⟨[v], []⟩ [("_law_script", v)]) ∧ ∀ base : Heap, K.In base → base.Ns mainGlobals mg → (∀ T ∈ [Tb, Tb1, Tb2], base.BuiltinsAt mg T) → FnOk l.prog w K mg base CX0 12 fa fd ["_law_script"] (z6t K Tb1 Tb2 Tb) := by
  obtain ⟨c13x, rfl, hC13⟩ := L2.codeOf_ex ct13;obtain ⟨c16x, rfl, hC16⟩ := L2.codeOf_ex ct16;obtain ⟨c24x, rfl, hC24⟩ := L2.codeOf_ex ct24;have e := hfa.symm.trans (PySem.W.mg_of X G a46);cases e;have T : Txt K mg := ⟨PySem.W.mg_none_of X G z0, PySem.W.mg_none_of X G z1, PySem.W.mg_none_of X G z2, PySem.W.mg_none_of X G z3, PySem.W.mg_none_of X G z4, PySem.W.mg_none_of X G z5, PySem.W.mg_none_of X G z6, PySem.W.mg_none_of X G z7, PySem.W.mg_none_of X G z8, PySem.W.mg_none_of X G z9, PySem.W.mg_none_of X G z10, PySem.W.mg_none_of X G z11, PySem.W.mg_none_of X G z12, PySem.W.mg_none_of X G z13⟩;have F0 := zM (st := z08) l0 c0 k0;have F1 := zM (st := z0r) l1 c1 k1;have F2 := zM (st := z2x) l2 c2 k2;have F3 := zM (st := kW) l3 c3 k3;have F4 := zM (st := yh) l4 c4 k4;have F5 := zM (st := ku) l5 c5 k5;have F6 := zM (st := z0x) l6 c6 k6;have F7 := zM (st := yq) l7 c7 k7;have F8 := zM (st := yK) l8 c8 k8;have F9 := zM (st := z09) l9 c9 k9;have F10 := zM (st := yz) l10 c10 k10;have F11 := zM (st := yv) l11 c11 k11;have F12 := zM (st := z0v) l12 c12 k12;have F13 := zM (st := z06) l13 c13 k13;have F14 := zM (st := z1A) l14 c14 k14;have F15 := zM (st := z0k) l15 c15 k15;have F16 := zM (st := km) l16 c16 k16;have F17 := zM (st := yd) l17 c17 k17;have F18 := zM (st := yY) l18 c18 k18;have F19 := zM (st := z0H) l19 c19 k19;have F20 := zM (st := jv) l20 c20 k20;have F21 := zM (st := yJ) l21 c21 k21;have F22 := zM (st := z0V) l22 c22 k22;have F23 := zM (st := kG) l23 c23 k23;have F24 := zM (st := yo) l24 c24 k24;have F25 := zM (st := kX) l25 c25 k25;have F26 := zM (st := kT) l26 c26 k26;have F27 := zM (st := yX) l27 c27 k27;have F28 := zM (st := kU) l28 c28 k28;have F29 := zM (st := ke) l29 c29 k29;have F30 := zM (st := yx) l30 c30 k30;have F31 := zM (st := z0c) l31 c31 k31;have F32 := zM (st := z0b) l32 c32 k32;have F33 := zM (st := ji) l33 c33 k33;have F34 := zM (st := yr) l34 c34 k34;have b34 := F34.binds (ps := ["_law_condition"]) fun _ _ _ _ _ _ => z5G fun _ => rfl
  have F35 := zM (st := yO) l35 c35 k35;have b35 := F35.binds (ps := ["_law_condition", "_law_heads", "_law_row"]) fun _ _ _ _ _ _ => z0Y fun _ _ _ => rfl
  have F36 := zM (st := kq) l36 c36 k36;have F37 := zM (st := yH) l37 c37 k37;have F38 := zM (st := jB) l38 c38 k38;have F39 := zM (st := yE) l39 c39 k39;have F40 := zM (st := kA) l40 c40 k40;have F41 := zM (st := yU) l41 c41 k41;have F42 := zM (st := kr) l42 c42 k42;have F43 := zM (st := yG) l43 c43 k43;have F44 := zM (st := jC) l44 c44 k44;have F45 := zM (st := kZ) l45 c45 k45;have F46 := zM (st := z2K) l46 c46 k46;have R : TxtP K mg := ⟨⟨cA, PySem.W.mg_of X G aC, fun H => .inr ⟨_, _, _, lC, rfl, rfl, (by show 2 ≤ sizeLine; decide), .cons ⟨_, rfl⟩ (.cons ⟨_, rfl⟩ .nil)⟩⟩, PySem.W.mg_none_of X G zs, ⟨cT, PySem.W.mg_of X G aT, fun H => .inr ⟨_, _, _, lT, rfl, rfl, (by show 3 ≤ sizeLine; decide), .cons ⟨_, rfl⟩ (.cons ⟨_, rfl⟩ (.cons ⟨_, rfl⟩ .nil))⟩⟩⟩;refine ⟨PySem.W.fnOf "law" "law" (z0X z2K) (yt z2K) (zl z2K) .none kV46 dc46 pm46 an46 cd46 ct46, fun s v => .of_eq rfl, fun base hKb _ hB => ?_⟩;have N_number_of : Kn l.prog w K mg base 1 "number_of" ["side", "heads", "row"] (z7J K) := ⟨_, _, z4k F0 T, PySem.W.mg_of X G a0, k0, (F0.binds fun _ _ _ _ _ _ => z0Y fun _ _ _ => rfl)⟩;have N_compared : Kn l.prog w K mg base 2 "compared" ["comparison", "heads", "row"] (z7G K) := ⟨_, _, z5i F1 T N_number_of, PySem.W.mg_of X G a1, k1, (F1.binds fun _ _ _ _ _ _ => z0Y fun _ _ _ => rfl)⟩;have N_holds : Kn l.prog w K mg base 3 "holds" ["condition", "heads", "row"] (z4c K) := ⟨_, _, z8s F2 T R N_compared, PySem.W.mg_of X G a2, k2, (F2.binds fun _ _ _ _ _ _ => z0Y fun _ _ _ => rfl)⟩;have N_columns_of : Kn l.prog w K mg base 1 "columns_of" ["condition"] (z5E K) := ⟨_, _, z3z F3 T, PySem.W.mg_of X G a3, k3, (F3.binds fun _ _ _ _ _ _ => z5G fun _ => rfl)⟩;have N_straight_within : Kn l.prog w K mg base 1 "straight_within" ["question"] (z1E K) := ⟨_, _, z1c F4 T R, PySem.W.mg_of X G a4, k4, (F4.binds fun _ _ _ _ _ _ => z5G fun _ => rfl)⟩;have N_inner_first : Kn l.prog w K mg base 2 "inner_first" ["question"] (z4l K) := ⟨_, _, z2M F5 T N_straight_within, PySem.W.mg_of X G a5, k5, (F5.binds fun _ _ _ _ _ _ => z5G fun _ => rfl)⟩;have N_built_up : KnS l.prog w K mg base CX0 9 "built_up" ["question", "work"] (z2B l.prog w K mg base 8) := ⟨_, _, z4O (k := 8) (by decide) F6 T N_inner_first N_straight_within, PySem.W.mg_of X G a6, k6, (F6.binds fun _ _ _ _ _ _ => z07 fun _ _ => rfl)⟩;have N_heads_of_table : Kn l.prog w K mg base 1 "heads_of_table" ["tables", "name"] (z7L K) := ⟨_, _, z1q F7 T, PySem.W.mg_of X G a7, k7, (F7.binds fun _ _ _ _ _ _ => z07 fun _ _ => rfl)⟩;have N_check_columns : Kn l.prog w K mg base 1 "check_columns" ["names", "heads"] (z2C K) := ⟨_, _, z1Y F8 T, PySem.W.mg_of X G a8, k8, (F8.binds fun _ _ _ _ _ _ => z07 fun _ _ => rfl)⟩;have N_each_once : Kn l.prog w K mg base 1 "each_once" ["heads"] (z4f K) := ⟨_, _, z4G F9 T R, PySem.W.mg_of X G a9, k9, (F9.binds fun _ _ _ _ _ _ => z5G fun _ => rfl)⟩;have N_heads_over_one : Kn l.prog w K mg base 2 "heads_over_one" ["question", "heads"] (z7T K) := ⟨_, _, z1r F10 T N_check_columns N_columns_of N_each_once, PySem.W.mg_of X G a10, k10, (F10.binds fun _ _ _ _ _ _ => z07 fun _ _ => rfl)⟩;have N_heads_over_two : Kn l.prog w K mg base 2 "heads_over_two" ["question", "heads", "others"] (z8g K) := ⟨_, _, z1B F11 T N_check_columns N_each_once, PySem.W.mg_of X G a11, k11, (F11.binds fun _ _ _ _ _ _ => z0Y fun _ _ _ => rfl)⟩;have N_heads_at : Kn l.prog w K mg base 3 "heads_at" ["tables", "question", "within"] (z0W K) := ⟨_, _, z56 F12 T N_heads_of_table N_heads_over_one N_heads_over_two, PySem.W.mg_of X G a12, k12, (F12.binds fun _ _ _ _ _ _ => z0Y fun _ _ _ => rfl)⟩;have N_heads_of : Kn l.prog w K mg base 10 "heads_of" ["tables", "question"] (z22 K Tb1 Tb2 Tb) := ⟨_, _, z4Q F13 T rfl (PySem.W.codeHd_of_K hKb hC13) (hB _ (by simp)) N_built_up N_heads_at, PySem.W.mg_of X G a13, k13, (F13.binds fun _ _ _ _ _ _ => z07 fun _ _ => rfl)⟩;have N_joined : Kn l.prog w K mg base 1 "joined" ["rows", "others", "spot", "place"] (z3e K) := ⟨_, _, z6U F14 T, PySem.W.mg_of X G a14, k14, (F14.binds fun _ _ _ _ _ _ => zaT fun _ _ _ _ => rfl)⟩;have N_grouped : Kn l.prog w K mg base 2 "grouped" ["rows", "spot", "place"] (z27 K) := ⟨_, _, z5B F15 T, PySem.W.mg_of X G a15, k15, (F15.binds fun _ _ _ _ _ _ => z0Y fun _ _ _ => rfl)⟩;have N_in_order : Kn l.prog w K mg base 3 "in_order" ["rows", "spot"] (z4z K Tb) := ⟨_, _, z5c F16 T rfl (PySem.W.codeHd_of_K hKb hC16) (hB _ (by simp)), PySem.W.mg_of X G a16, k16, (F16.binds fun _ _ _ _ _ _ => z07 fun _ _ => rfl)⟩;have N_rows_of_table : Kn l.prog w K mg base 1 "rows_of_table" ["tables", "name"] (z8F K) := ⟨_, _, z1J F17 T, PySem.W.mg_of X G a17, k17, (F17.binds fun _ _ _ _ _ _ => z07 fun _ _ => rfl)⟩;have N_numbers_at : Kn l.prog w K mg base 1 "numbers_at" ["row", "spots"] (z5Y K) := ⟨_, _, z3t F18 T, PySem.W.mg_of X G a18, k18, (F18.binds fun _ _ _ _ _ _ => z07 fun _ _ => rfl)⟩;have N_paired : Kn l.prog w K mg base 1 "paired" ["rows", "others"] (z36 K) := ⟨_, _, z7n F19 T, PySem.W.mg_of X G a19, k19, (F19.binds fun _ _ _ _ _ _ => z07 fun _ _ => rfl)⟩;have N_rows_over_one : Kn l.prog w K mg base 4 "rows_over_one" ["question", "heads", "rows"] (zad K Tb1 Tb2 Tb) := ⟨_, _, z1W F20 T N_holds N_numbers_at N_grouped N_in_order, PySem.W.mg_of X G a20, k20, (F20.binds fun _ _ _ _ _ _ => z0Y fun _ _ _ => rfl)⟩;have N_rows_over_two : Kn l.prog w K mg base 2 "rows_over_two" ["question", "first", "second"] (za4 K) := ⟨_, _, z1N F21 T N_paired N_joined, PySem.W.mg_of X G a21, k21, (F21.binds fun _ _ _ _ _ _ => z0Y fun _ _ _ => rfl)⟩;have N_rows_at : Kn l.prog w K mg base 5 "rows_at" ["tables", "question", "within"] (z2S K Tb1 Tb2 Tb) := ⟨_, _, z6d F22 T N_rows_of_table N_rows_over_one N_rows_over_two, PySem.W.mg_of X G a22, k22, (F22.binds fun _ _ _ _ _ _ => z0Y fun _ _ _ => rfl)⟩;have N_answer_at : Kn l.prog w K mg base 6 "answer_at" ["tables", "question", "within"] (z1a K Tb1 Tb2 Tb) := ⟨_, _, z4n F23 T N_heads_at N_rows_at, PySem.W.mg_of X G a23, k23, (F23.binds fun _ _ _ _ _ _ => z0Y fun _ _ _ => rfl)⟩;have N_plain_answer : Kn l.prog w K mg base 11 "plain_answer" ["tables", "question"] (z4I K Tb1 Tb2 Tb) := ⟨_, _, z2s F24 T rfl (PySem.W.codeHd_of_K hKb hC24) (hB _ (by simp)) N_heads_of N_built_up N_answer_at, PySem.W.mg_of X G a24, k24, (F24.binds fun _ _ _ _ _ _ => z07 fun _ _ => rfl)⟩;have N__law_texts : Kn l.prog w K mg base 1 "_law_texts" ["_law_found", "_law_due"] (z2A K) := ⟨_, _, z3s F25 T, PySem.W.mg_of X G a25, k25, (F25.binds fun _ _ _ _ _ _ => z07 fun _ _ => rfl)⟩;have N__law_whole : Kn l.prog w K mg base 1 "_law_whole" ["_law_found"] z4D := ⟨_, _, z3j F26 T, PySem.W.mg_of X G a26, k26, (F26.binds fun _ _ _ _ _ _ => z5G fun _ => rfl)⟩;have N__law_numbers : Kn l.prog w K mg base 2 "_law_numbers" ["_law_found", "_law_due"] (z1M K) := ⟨_, _, z2w F27 T N__law_whole, PySem.W.mg_of X G a27, k27, (F27.binds fun _ _ _ _ _ _ => z07 fun _ _ => rfl)⟩;have N__law_alike : Kn l.prog w K mg base 3 "_law_alike" ["_law_found", "_law_due"] (z2y K) := ⟨_, _, z3r F28 T N__law_numbers, PySem.W.mg_of X G a28, k28, (F28.binds fun _ _ _ _ _ _ => z07 fun _ _ => rfl)⟩;have N__law_answers : Kn l.prog w K mg base 4 "_law_answers" ["_law_found", "_law_heads", "_law_rows"] (z2c K) := ⟨_, _, z2n F29 T N__law_texts N__law_alike, PySem.W.mg_of X G a29, k29, (F29.binds fun _ _ _ _ _ _ => z0Y fun _ _ _ => rfl)⟩;have N__law_again : Kn l.prog w K mg base 1 "_law_again" ["_law_tables"] (z4y K) := ⟨_, _, z3y F30 T, PySem.W.mg_of X G a30, k30, (F30.binds fun _ _ _ _ _ _ => z5G fun _ => rfl)⟩;have N__law_kept : Kn l.prog w K mg base 4 "_law_kept" ["_law_handed", "_law_tables"] (z5P K) := ⟨_, _, z4C F31 T N__law_texts N__law_alike, PySem.W.mg_of X G a31, k31, (F31.binds fun _ _ _ _ _ _ => z07 fun _ _ => rfl)⟩;have N__law_wide : Kn l.prog w K mg base 1 "_law_wide" ["_law_script", "_law_few", "_law_bound"] (z5C K) := ⟨_, _, z4K F32 T, PySem.W.mg_of X G a32, k32, (F32.binds fun _ _ _ _ _ _ => z0Y fun _ _ _ => rfl)⟩;have N__law_stocked : Kn l.prog w K mg base 1 "_law_stocked" ["_law_cells", "_law_more"] (z1R K) := ⟨_, _, z2u F33 T, PySem.W.mg_of X G a33, k33, (F33.binds fun _ _ _ _ _ _ => z07 fun _ _ => rfl)⟩;have N__law_spelt : Kn l.prog w K mg base 7 "_law_spelt" ["_law_condition"] (z1v K 7) := ⟨_, _, z14 F34 T (fun kk spp h => ⟨_, _, h, PySem.W.mg_of X G a34, k34, b34⟩) 7, PySem.W.mg_of X G a34, k34, b34⟩;have N__law_true : Kn l.prog w K mg base 7 "_law_true" ["_law_condition", "_law_heads", "_law_row"] (z31 K 7) := ⟨_, _, z1D F35 T (fun kk spp h => ⟨_, _, h, PySem.W.mg_of X G a35, k35, b35⟩) 7, PySem.W.mg_of X G a35, k35, b35⟩;have N__law_asking : Kn l.prog w K mg base 1 "_law_asking" ["_law_heads", "_law_seed"] (z35 K) := ⟨_, _, z2Z F36 T, PySem.W.mg_of X G a36, k36, (F36.binds fun _ _ _ _ _ _ => z07 fun _ _ => rfl)⟩;have N__law_picked : Kn l.prog w K mg base 8 "_law_picked" ["_law_state", "_law_seed"] (z1I K) := ⟨_, _, z34 F37 T N__law_asking N__law_true N__law_spelt, PySem.W.mg_of X G a37, k37, (F37.binds fun _ _ _ _ _ _ => z07 fun _ _ => rfl)⟩;have N__law_columns : Kn l.prog w K mg base 1 "_law_columns" ["_law_state", "_law_seed"] (z1X K) := ⟨_, _, z2t F38 T, PySem.W.mg_of X G a38, k38, (F38.binds fun _ _ _ _ _ _ => z07 fun _ _ => rfl)⟩;have N__law_sorted : Kn l.prog w K mg base 1 "_law_sorted" ["_law_state", "_law_seed"] (z1G K) := ⟨_, _, z39 F39 T, PySem.W.mg_of X G a39, k39, (F39.binds fun _ _ _ _ _ _ => z07 fun _ _ => rfl)⟩;have N__law_headed : Kn l.prog w K mg base 1 "_law_headed" ["_law_state", "_law_seed"] (z1k K) := ⟨_, _, z2N F40 T, PySem.W.mg_of X G a40, k40, (F40.binds fun _ _ _ _ _ _ => z07 fun _ _ => rfl)⟩;have N__law_doubled : Kn l.prog w K mg base 9 "_law_doubled" ["_law_state", "_law_seed"] (z1Q K) := ⟨_, _, z2r F41 T N__law_picked, PySem.W.mg_of X G a41, k41, (F41.binds fun _ _ _ _ _ _ => z07 fun _ _ => rfl)⟩;have N__law_beside : Kn l.prog w K mg base 1 "_law_beside" ["_law_state", "_law_table", "_law_seed"] (z2U K) := ⟨_, _, z2Y F42 T, PySem.W.mg_of X G a42, k42, (F42.binds fun _ _ _ _ _ _ => z0Y fun _ _ _ => rfl)⟩;have N__law_united : Kn l.prog w K mg base 2 "_law_united" ["_law_state", "_law_table", "_law_seed"] (z38 K) := ⟨_, _, z3a F43 T N__law_sorted N__law_headed, PySem.W.mg_of X G a43, k43, (F43.binds fun _ _ _ _ _ _ => z0Y fun _ _ _ => rfl)⟩;have N__law_counted : Kn l.prog w K mg base 1 "_law_counted" ["_law_state", "_law_seed", "_law_sign"] (z25 K) := ⟨_, _, z2v F44 T, PySem.W.mg_of X G a44, k44, (F44.binds fun _ _ _ _ _ _ => z0Y fun _ _ _ => rfl)⟩;have N__law_grown : Kn l.prog w K mg base 10 "_law_grown" ["_law_cells", "_law_tables"] (z4t K) := ⟨_, _, z3A F45 T N__law_picked N__law_columns N__law_united N__law_beside N__law_doubled N__law_headed N__law_counted N__law_sorted, PySem.W.mg_of X G a45, k45, (F45.binds fun _ _ _ _ _ _ => z07 fun _ _ => rfl)⟩;exact z9V F46 T (of_decide_eq_false ctd0) (of_decide_eq_false ctd1) (of_decide_eq_false ctd2) N__law_wide N__law_stocked N__law_grown N__law_again N_plain_answer N__law_kept N__law_answers
theorem walk {l : PySem.W.OpenLaw} {q : Program} {loose : List Str} {XP : (Str → Option Value) → Heap → Prop} {YP : World → Heap → Prop} {d : DefRec} {K : Params → PySem.W.Frag} {Tb Tb1 Tb2 : Addr} (hn : l.most = some 63) (hdf : d.params.defaults = [])
    (hY : ∀ (w : World) (h : Heap), YP w h → (K w.params).In h ∧ ∀ T ∈ [Tb, Tb1, Tb2], h.get? T = some (PySem.W.tabObj #[])) (hTc : ∀ (w : World), ∀ T ∈ [Tb, Tb1, Tb2], L2.codeTabIn (K w.params) T = true) (hTK : ∀ (w : World), ∀ T ∈ [Tb, Tb1, Tb2], (K w.params).lookup T = none)
    (F : ∀ (w : World) (mg : Str → Option Value) (fa : Addr) (h : Heap), (K w.params).In h → h.Ns mainGlobals mg → mg d.name = some (.ref fa) →
      ∃ fd : FuncData, (∀ (s : Shared) (u : Value), BindsTo s fd ⟨[u], []⟩ [("_law_script", u)]) ∧ ∀ base : Heap, (K w.params).In base → base.Ns mainGlobals mg → (∀ T ∈ [Tb, Tb1, Tb2], base.BuiltinsAt mg T) → FnOk l.prog w (K w.params) mg base CX0 12 fa fd ["_law_script"] (z6t (K w.params) Tb1 Tb2 Tb)) :
    PySem.W.WalkO q loose XP YP l.row.toRowW d [] (fun f vs => PySem.call f vs) :=
  L2.walk_ofT (n := 63) (k := 12) (x := "_law_script") (sp := fun w => z6t (K w.params) Tb1 Tb2 Tb) hn (by decide) hdf ⟨rfl, by decide, by decide⟩ hY hTc hTK F fun _ _ a ns hl hS hT => ⟨a, ns, rfl, hS, hl, .inl (hT _ (by simp)), .inl (hT _ (by simp)), .inl (hT _ (by simp)), fun _ => rfl⟩
end Q6
def PySem.W.Fast.tw260086656009648392 : Unit := ()
def PySem.W.Fast.tw8717251412882510150 : Unit := ()
def PySem.W.Fast.tw5645596503778994253 : Unit := ()
def PySem.W.Fast.tw6613735136101432674 : Unit := ()
def PySem.W.Fast.tw11372377070228369396 : Unit := ()
def PySem.W.Fast.tw10583639912508382549 : Unit := ()
def PySem.W.Fast.tw8801487628909866834 : Unit := ()
def PySem.W.Fast.tw13714063322774447587 : Unit := ()
def PySem.W.Fast.tw16435825848022515237 : Unit := ()
def PySem.W.Fast.tw10462561101562881963 : Unit := ()
def PySem.W.Fast.tw2951426742099031282 : Unit := ()
def PySem.W.Fast.tw15141444658619529406 : Unit := ()
def PySem.W.Fast.tw14341974408446411400 : Unit := ()
def PySem.W.Fast.tw2577478917817549830 : Unit := ()
def PySem.W.Fast.tw4863857550633694952 : Unit := ()
def PySem.W.Fast.tw11610639383141435385 : Unit := ()
def PySem.W.Fast.tw16149677054248897501 : Unit := ()
def PySem.W.Fast.tw3091111066852028445 : Unit := ()
def PySem.W.Fast.tw4652643191187758435 : Unit := ()
def PySem.W.Fast.tw5961369595984168597 : Unit := ()
def PySem.W.Fast.tw5097299998115190749 : Unit := ()
def PySem.W.Fast.tw9746244941595237957 : Unit := ()
def PySem.W.Fast.tw7588989691904465393 : Unit := ()
def PySem.W.Fast.tw11660048434210664277 : Unit := ()
def PySem.W.Fast.tw16834198534694179324 : Unit := ()
def PySem.W.Fast.tw13534366877730154013 : Unit := ()
def PySem.W.Fast.tw2847101365762632783 : Unit := ()
def PySem.W.Fast.tw14252338436525874586 : Unit := ()
def PySem.W.Fast.tw8596021514151357817 : Unit := ()
def PySem.W.Fast.tw10093067528460323394 : Unit := ()
def PySem.W.Fast.tw3773782281134443341 : Unit := ()
def PySem.W.Fast.tw17862577119050422114 : Unit := ()
def PySem.W.Fast.tw2769078590848491086 : Unit := ()
def PySem.W.Fast.tw13430766642562319776 : Unit := ()
def PySem.W.Fast.tw118923149812914858 : Unit := ()
def PySem.W.Fast.tw4642413279287558051 : Unit := ()
def PySem.W.Fast.tw12900318325723819302 : Unit := ()
def PySem.W.Fast.tw3889746466736309185 : Unit := ()
def PySem.W.Fast.tw16332310739709948290 : Unit := ()
def PySem.W.Fast.tw5680900612502703893 : Unit := ()
def PySem.W.Fast.tw15440690453622464186 : Unit := ()
def PySem.W.Fast.tw4942197153075603051 : Unit := ()
def PySem.W.Fast.tw5703631621418192758 : Unit := ()
def PySem.W.Fast.tw16932094196804853951 : Unit := ()
def PySem.W.Fast.tw14485102440663036201 : Unit := ()
def PySem.W.Fast.tw12086350589305606059 : Unit := ()
def PySem.W.Fast.tw1229072579334830507 : Unit := ()
def PySem.W.Fast.tw11879095401166083716 : Unit := ()
def PySem.W.Fast.tw13094663895707263212 : Unit := ()
def PySem.W.Fast.tw5056329463139157885 : Unit := ()
def PySem.W.Fast.tw17732801728248332575 : Unit := ()
def PySem.W.Fast.tw13792093314361364011 : Unit := ()
def PySem.W.Fast.tw2761610273530915405 : Unit := ()
def PySem.W.Fast.tw11187321764879745169 : Unit := ()
def PySem.W.Fast.tw13030377434649463176 : Unit := ()
def PySem.W.Fast.tw18032818279052196929 : Unit := ()
def PySem.W.Fast.tw2100869540008927532 : Unit := ()
def PySem.W.Fast.tw14678716699397603239 : Unit := ()
def PySem.W.Fast.tw9872560618026888504 : Unit := ()
def PySem.W.Fast.tw15619780394990827072 : Unit := ()
def PySem.W.Fast.tw12871271267208312081 : Unit := ()
def PySem.W.Fast.tw336659054717745079 : Unit := ()
def PySem.W.Fast.tw7804192743277774470 : Unit := ()
def PySem.W.Fast.tw14877250321688083259 : Unit := ()
def PySem.W.Fast.tw11478895527505457239 : Unit := ()
def PySem.W.Fast.tw15945023549975057605 : Unit := ()
def PySem.W.Fast.tw9137609202694100044 : Unit := ()
def PySem.W.Fast.tw5723239972302003069 : Unit := ()
def PySem.W.Fast.tw17815576852197447390 : Unit := ()
def PySem.W.Fast.tw12788608294809306492 : Unit := ()
def PySem.W.Fast.tw10647930458059937075 : Unit := ()
def PySem.W.Fast.tw269272430663926076 : Unit := ()
def PySem.W.Fast.tw10661606363683646056 : Unit := ()
def PySem.W.Fast.tw18169294245566694283 : Unit := ()
def PySem.W.Fast.tw5802849642100839650 : Unit := ()
def PySem.W.Fast.tw379151200119891756 : Unit := ()
def PySem.W.Fast.tw5420123803779480643 : Unit := ()
def PySem.W.Fast.tw17597603860839878740 : Unit := ()
def PySem.W.Fast.tw16048735486489402086 : Unit := ()
def PySem.W.Fast.tw2990144109834720300 : Unit := ()
def PySem.W.Fast.tw10067374935710601323 : Unit := ()
def PySem.W.Fast.tw4967007572968379514 : Unit := ()
def PySem.W.Fast.tw4760862803283796183 : Unit := ()
def PySem.W.Fast.tw2784818712648369128 : Unit := ()
def PySem.W.Fast.tw10797654872941211586 : Unit := ()
def PySem.W.Fast.tw17303598913596901690 : Unit := ()
def PySem.W.Fast.tw2449268641096599348 : Unit := ()
def PySem.W.Fast.tw6221858711108855327 : Unit := ()
def PySem.W.Fast.tw9998019914234132010 : Unit := ()
def PySem.W.Fast.tw7407410010751758732 : Unit := ()
def PySem.W.Fast.tw13652467557223477721 : Unit := ()
def PySem.W.Fast.tw10780782012731071117 : Unit := ()
def PySem.W.Fast.tw339260826126610034 : Unit := ()
def PySem.W.Fast.tw9641796812086194513 : Unit := ()
def PySem.W.Fast.tw4353105338573607655 : Unit := ()
def PySem.W.Fast.tw1850574399158931011 : Unit := ()
def PySem.W.Fast.tw18201301355255616950 : Unit := ()
def PySem.W.Fast.tw4286258295165989483 : Unit := ()
open PySem PySem.W PyProof.Rows
set_option maxRecDepth 100000 in
set_option maxHeartbeats 0 in
theorem PySem.Challenge.cw_sheetask_k06_plain_answer_holds : PySem.Challenge.rw_sheetask_k06_plain_answer.Holds := by
  w_on; o_law; k_head; (case hw => w_witness2)
  k_fill
  refine Q6.walk (l := PySem.Challenge.rw_sheetask_k06_plain_answer) rfl rfl (fun w h Y => ⟨PySem.W.km_in_of Y, PySem.W.km_tabs_of Y⟩) (fun w => List.forall_mem_cons.mpr ⟨by kernel_rfl, List.forall_mem_cons.mpr ⟨by kernel_rfl, List.forall_mem_cons.mpr ⟨by kernel_rfl, fun _ h => nomatch h⟩⟩⟩) (fun w => List.forall_mem_cons.mpr ⟨by kernel_rfl, List.forall_mem_cons.mpr ⟨by kernel_rfl, List.forall_mem_cons.mpr ⟨by kernel_rfl, fun _ h => nomatch h⟩⟩⟩) ?F
  case F =>
    intro w mg fa h KX G hmg;refine' Q6.all_mk KX G hmg ?a0 ?l0 ?c0 ?k0 ?a1 ?l1 ?c1 ?k1 ?a2 ?l2 ?c2 ?k2 ?a3 ?l3 ?c3 ?k3 ?a4 ?l4 ?c4 ?k4 ?a5 ?l5 ?c5 ?k5 ?a6 ?l6 ?c6 ?k6 ?a7 ?l7 ?c7 ?k7 ?a8 ?l8 ?c8 ?k8 ?a9 ?l9 ?c9 ?k9 ?a10 ?l10 ?c10 ?k10 ?a11 ?l11 ?c11 ?k11 ?a12 ?l12 ?c12 ?k12 ?a13 ?l13 ?c13 ?k13 ?ct13 ?a14 ?l14 ?c14 ?k14 ?a15 ?l15 ?c15 ?k15 ?a16 ?l16 ?c16 ?k16 ?ct16 ?a17 ?l17 ?c17 ?k17 ?a18 ?l18 ?c18 ?k18 ?a19 ?l19 ?c19 ?k19 ?a20 ?l20 ?c20 ?k20 ?a21 ?l21 ?c21 ?k21 ?a22 ?l22 ?c22 ?k22 ?a23 ?l23 ?c23 ?k23 ?a24 ?l24 ?c24 ?k24 ?ct24 ?a25 ?l25 ?c25 ?k25 ?a26 ?l26 ?c26 ?k26 ?a27 ?l27 ?c27 ?k27 ?a28 ?l28 ?c28 ?k28 ?a29 ?l29 ?c29 ?k29 ?a30 ?l30 ?c30 ?k30 ?a31 ?l31 ?c31 ?k31 ?a32 ?l32 ?c32 ?k32 ?a33 ?l33 ?c33 ?k33 ?a34 ?l34 ?c34 ?k34 ?a35 ?l35 ?c35 ?k35 ?a36 ?l36 ?c36 ?k36 ?a37 ?l37 ?c37 ?k37 ?a38 ?l38 ?c38 ?k38 ?a39 ?l39 ?c39 ?k39 ?a40 ?l40 ?c40 ?k40 ?a41 ?l41 ?c41 ?k41 ?a42 ?l42 ?c42 ?k42 ?a43 ?l43 ?c43 ?k43 ?a44 ?l44 ?c44 ?k44 ?a45 ?l45 ?c45 ?k45 ?a46 ?l46 ?c46 ?k46 ?z0 ?z1 ?z2 ?z3 ?z4 ?z5 ?z6 ?z7 ?z8 ?z9 ?z10 ?z11 ?z12 ?z13 ?aC ?lC ?aT ?lT ?zs ?ctd0 ?ctd1 ?ctd2
    all_goals try delta Q6.nI Q6.fL Q6.cI Q6.kI
    (case a0 => k_is)
    (case l0 => k_is)
    (case c0 => k_is)
    (case k0 => k_is)
    (case a1 => k_is)
    (case l1 => k_is)
    (case c1 => k_is)
    (case k1 => k_is)
    (case a2 => k_is)
    (case l2 => k_is)
    (case c2 => k_is)
    (case k2 => k_is)
    (case a3 => k_is)
    (case l3 => k_is)
    (case c3 => k_is)
    (case k3 => k_is)
    (case a4 => k_is)
    (case l4 => k_is)
    (case c4 => k_is)
    (case k4 => k_is)
    (case a5 => k_is)
    (case l5 => k_is)
    (case c5 => k_is)
    (case k5 => k_is)
    (case a6 => k_is)
    (case l6 => k_is)
    (case c6 => k_is)
    (case k6 => k_is)
    (case a7 => k_is)
    (case l7 => k_is)
    (case c7 => k_is)
    (case k7 => k_is)
    (case a8 => k_is)
    (case l8 => k_is)
    (case c8 => k_is)
    (case k8 => k_is)
    (case a9 => k_is)
    (case l9 => k_is)
    (case c9 => k_is)
    (case k9 => k_is)
    (case a10 => k_is)
    (case l10 => k_is)
    (case c10 => k_is)
    (case k10 => k_is)
    (case a11 => k_is)
    (case l11 => k_is)
    (case c11 => k_is)
    (case k11 => k_is)
    (case a12 => k_is)
    (case l12 => k_is)
    (case c12 => k_is)
    (case k12 => k_is)
    (case a13 => k_is)
    (case l13 => k_is)
    (case c13 => k_is)
    (case k13 => k_is)
    (case ct13 => kernel_rfl)
    (case a14 => k_is)
    (case l14 => k_is)
    (case c14 => k_is)
    (case k14 => k_is)
    (case a15 => k_is)
    (case l15 => k_is)
    (case c15 => k_is)
    (case k15 => k_is)
    (case a16 => k_is)
    (case l16 => k_is)
    (case c16 => k_is)
    (case k16 => k_is)
    (case ct16 => kernel_rfl)
    (case a17 => k_is)
    (case l17 => k_is)
    (case c17 => k_is)
    (case k17 => k_is)
    (case a18 => k_is)
    (case l18 => k_is)
    (case c18 => k_is)
    (case k18 => k_is)
    (case a19 => k_is)
    (case l19 => k_is)
    (case c19 => k_is)
    (case k19 => k_is)
    (case a20 => k_is)
    (case l20 => k_is)
    (case c20 => k_is)
    (case k20 => k_is)
    (case a21 => k_is)
    (case l21 => k_is)
    (case c21 => k_is)
    (case k21 => k_is)
    (case a22 => k_is)
    (case l22 => k_is)
    (case c22 => k_is)
    (case k22 => k_is)
    (case a23 => k_is)
    (case l23 => k_is)
    (case c23 => k_is)
    (case k23 => k_is)
    (case a24 => k_is)
    (case l24 => k_is)
    (case c24 => k_is)
    (case k24 => k_is)
    (case ct24 => kernel_rfl)
    (case a25 => k_is)
    (case l25 => k_is)
    (case c25 => k_is)
    (case k25 => k_is)
    (case a26 => k_is)
    (case l26 => k_is)
    (case c26 => k_is)
    (case k26 => k_is)
    (case a27 => k_is)
    (case l27 => k_is)
    (case c27 => k_is)
    (case k27 => k_is)
    (case a28 => k_is)
    (case l28 => k_is)
    (case c28 => k_is)
    (case k28 => k_is)
    (case a29 => k_is)
    (case l29 => k_is)
    (case c29 => k_is)
    (case k29 => k_is)
    (case a30 => k_is)
    (case l30 => k_is)
    (case c30 => k_is)
    (case k30 => k_is)
    (case a31 => k_is)
    (case l31 => k_is)
    (case c31 => k_is)
    (case k31 => k_is)
    (case a32 => k_is)
    (case l32 => k_is)
    (case c32 => k_is)
    (case k32 => k_is)
    (case a33 => k_is)
    (case l33 => k_is)
    (case c33 => k_is)
    (case k33 => k_is)
    (case a34 => k_is)
    (case l34 => k_is)
    (case c34 => k_is)
    (case k34 => k_is)
    (case a35 => k_is)
    (case l35 => k_is)
    (case c35 => k_is)
    (case k35 => k_is)
    (case a36 => k_is)
    (case l36 => k_is)
    (case c36 => k_is)
    (case k36 => k_is)
    (case a37 => k_is)
    (case l37 => k_is)
    (case c37 => k_is)
    (case k37 => k_is)
    (case a38 => k_is)
    (case l38 => k_is)
    (case c38 => k_is)
    (case k38 => k_is)
    (case a39 => k_is)
    (case l39 => k_is)
    (case c39 => k_is)
    (case k39 => k_is)
    (case a40 => k_is)
    (case l40 => k_is)
    (case c40 => k_is)
    (case k40 => k_is)
    (case a41 => k_is)
    (case l41 => k_is)
    (case c41 => k_is)
    (case k41 => k_is)
    (case a42 => k_is)
    (case l42 => k_is)
    (case c42 => k_is)
    (case k42 => k_is)
    (case a43 => k_is)
    (case l43 => k_is)
    (case c43 => k_is)
    (case k43 => k_is)
    (case a44 => k_is)
    (case l44 => k_is)
    (case c44 => k_is)
    (case k44 => k_is)
    (case a45 => k_is)
    (case l45 => k_is)
    (case c45 => k_is)
    (case k45 => k_is)
    (case a46 => k_is)
    (case l46 => k_is)
    (case c46 => k_is)
    (case k46 => k_is)
    (case z0 => k_is)
    (case z1 => k_is)
    (case z2 => k_is)
    (case z3 => k_is)
    (case z4 => k_is)
    (case z5 => k_is)
    (case z6 => k_is)
    (case z7 => k_is)
    (case z8 => k_is)
    (case z9 => k_is)
    (case z10 => k_is)
    (case z11 => k_is)
    (case z12 => k_is)
    (case z13 => k_is)
    (case aC => k_is)
    (case lC => k_is)
    (case aT => k_is)
    (case lT => k_is)
    (case zs => k_is)
    (case ctd0 => kernel_rfl)
    (case ctd1 => kernel_rfl)
    (case ctd2 => kernel_rfl)
#print axioms PySem.Challenge.cw_sheetask_k06_plain_answer_holds
